/- Several texts as one. -/
import Derived.Test.YtdjneegacogklaaSA
/- Speeds and heights. -/
namespace Go.Proofs
open Go.Abs
attribute [local simp] AOp.den AOpd.ev lk cellsOf rd_new rd_new0 rd_zero rd_succ wr_new wr_new0 wr_zero wr_succ splice fillA binA scal sliceCells List.length_append argsT AV.sc scL AObj.sc resV getAll AR.get AOp.slots opdSlots opdsSlots partSlots eqAt at_new0 at_new set_new0 set_new wrap64
set_option linter.unusedSimpArgs false
set_option linter.unusedVariables false
/-- The first number of which something is so. -/
theorem c_first (H : Heap) (g : FuncId) (caps : List AV) (a b : Int) (p : Int → Bool) (ha : 0 ≤ a) (hab : a ≤ b) (hb : b ≤ 4000000000000000000) (hcaps : scL H.length caps = true)
    (hp : ∀ m, a ≤ m → m < b → ACalls Try.prog g (.int .i64 m :: caps) H (fun v h' => v = .bool (p m) ∧ h' = H)) (hm : ∀ m, a ≤ m → m + 1 < b → p m = true → p (m + 1) = true) :
    ACalls Try.prog F.span_First_int [.int .i64 a, .int .i64 b, .fn (.func g) [] caps] H (fun v h' => h' = H ∧ ∃ r, v = .int .i64 r ∧ a ≤ r ∧ r ≤ b ∧ (∀ m, a ≤ m → m < r → p m = false) ∧ (∀ m, r ≤ m → m < b → p m = true)) := by
  have up1 : ∀ (k : Nat) m, a ≤ m → m + k < b → p m = true → p (m + k) = true := by
    intro k
    induction k with
    | zero => intro m _ _ h; simpa using h
    | succ k ih =>
      intro m h1 h2 h3
      have := hm (m + k) (by omega) (by omega) (ih m h1 (by omega) h3)
      rw [show m + ((k + 1 : Nat) : Int) = m + k + 1 by omega]; exact this
  have up2 : ∀ m m', a ≤ m → m ≤ m' → m' < b → p m = true → p m' = true := by
    intro m m' h1 h2 h3 h4
    have := up1 (m' - m).toNat m h1 (by omega) h4
    rwa [show m + ((m' - m).toNat : Int) = m' by omega] at this
  refine acalls_of ok_span_First_int rfl fun hcl => ?_
  unfold ac_span_First_int
  simp only [argsT, Nat.zero_add, Nat.reduceAdd]
  repeat (first|(with_reducible first|apply X1|apply X2|apply X6|apply X8)|((with_reducible apply e_end);(simp;exact Red.rfl))|((with_reducible apply O1);rfl;(simp (disch:=omega);exact Red.rfl);exact Red.rfl;(focus (first|(simp;done)|omega|(simp;omega)))))
  refine e_loop (ι := { x : Int × Int // a ≤ x.1 ∧ x.1 ≤ x.2 ∧ x.2 ≤ b ∧ (∀ m, a ≤ m → m < x.1 → p m = false) ∧ (∀ m, x.2 ≤ m → m < b → p m = true) })
    (fun x => [(0, .int .i64 x.1.1), (1, .int .i64 x.1.2), (2, .fn (.func g) [] caps)]) (fun _ => H) (fun x => (x.1.2 - x.1.1).toNat) ⟨(a, b), by simp only; omega, hab, by simp, fun _ _ _ => by omega, fun _ _ _ => by omega⟩ ?_ ?_
  · exact .inl rfl
  · rintro ⟨⟨x, y⟩, h1, h2, h3, h4, h5⟩
    dsimp only at h1 h2 h3 h4 h5 ⊢
    repeat (first|(with_reducible first|apply X1|apply X2|apply X8)|((with_reducible apply e_end);(simp;exact Red.rfl))|((with_reducible apply O1);rfl;(simp (disch:=omega);exact Red.rfl);exact Red.rfl;(focus (first|(simp;done)|omega|(simp;omega)))))
    (with_reducible apply e_dec); (simp; exact Red.rfl)
    · intro hlt
      have ht : (y - x).tdiv 2 = (y - x) / 2 := Int.tdiv_eq_ediv_of_nonneg (by omega)
      repeat (first|(with_reducible first|apply X1|apply X2|apply X5|apply X6|apply X8)|((with_reducible apply e_end);(simp;exact Red.rfl))|((with_reducible apply O1);rfl;(simp (disch:=omega) [ht];exact Red.rfl);exact Red.rfl;(focus (first|(simp;done)|omega|(simp;omega)))))
      have hmid : x ≤ x + (y - x) / 2 ∧ x + (y - x) / 2 < y := by omega
      generalize x + (y - x) / 2 = m at hmid
      (with_reducible apply e_callV); (simp; exact Red.rfl); (simp; exact Red.rfl); exact hp m (by omega) (by omega)
      rintro _ _ ⟨rfl, rfl⟩
      cases hpm : p m with
      | true =>
        repeat (first|(with_reducible first|apply X2|apply X8|apply Y2)|((with_reducible apply e_end);(simp;exact Red.rfl))|((with_reducible apply O1);rfl;(simp (disch:=omega) [hpm];exact Red.rfl);exact Red.rfl;(focus (first|(simp;done)|omega|(simp;omega))))|((with_reducible apply Z9);(simp (disch:=omega) [hpm];exact Red.rfl)))
        exact q_again ⟨(x, m), h1, by simp only; omega, by simp only; omega, h4, fun m' h6 h7 => up2 m m' (by omega) h6 h7 hpm⟩ (by dsimp only; omega) (.inl rfl)
      | false =>
        repeat (first|(with_reducible first|apply X2|apply X8|apply Y2)|((with_reducible apply e_end);(simp;exact Red.rfl))|((with_reducible apply O1);rfl;(simp (disch:=omega) [hpm];exact Red.rfl);exact Red.rfl;(focus (first|(simp;done)|omega|(simp;omega))))|((with_reducible apply W3);(simp (disch:=omega) [hpm];exact Red.rfl)))
        refine q_again ⟨(m + 1, y), by simp only; omega, by simp only; omega, h3, fun m' h6 h7 => ?_, h5⟩ (by dsimp only; omega) (.inl rfl)
        simp only at h7
        cases hpm' : p m' with
        | false => rfl
        | true => have := up2 m' m h6 (by omega) (by omega) hpm'; rw [hpm] at this; cases this
    · intro hge
      repeat (first|(with_reducible first|apply X1|apply X2|apply X3|apply X4|apply X8|apply Y1|apply Y4|apply Y6)|((with_reducible apply e_end);(simp;exact Red.rfl))|((with_reducible apply O1);rfl;(simp (disch:=omega);exact Red.rfl);exact Red.rfl;(focus (first|(simp;done)|omega|(simp;omega)))))
      obtain rfl : x = y := by omega
      refine q_drop0 (.inr rfl) (by simp; exact Red.rfl) (by simp) ⟨rfl, x, rfl, h1, h3, h4, h5⟩

/-- The speed of a head, and the speed that is rounded up. -/
def IsDown (h v : Int) : Prop := 0 ≤ v ∧ 10 * (v * v) ≤ 1962 * h ∧ 1962 * h < 10 * ((v + 1) * (v + 1))
def IsUp (h v : Int) : Prop := 0 ≤ v ∧ 1962 * h ≤ 10 * (v * v) ∧ (v = 0 ∨ 10 * ((v - 1) * (v - 1)) < 1962 * h)
theorem sq_mono {a b : Int} (h : 0 ≤ a) (hab : a ≤ b) : a * a ≤ b * b := Int.mul_le_mul hab hab h (by omega)
theorem sq_ge {a : Int} (h : 0 ≤ a) : a ≤ a * a := by
  rcases Int.lt_or_le 0 a with h1 | h1
  · have := Int.mul_le_mul_of_nonneg_left (show (1 : Int) ≤ a by omega) h; omega
  · obtain rfl : a = 0 := by omega
    simp

theorem c_speedOf1 (H : Heap) (id : Nat) (m x : Int) (hx : 0 ≤ x ∧ x ≤ 300000) (hm : 0 ≤ m ∧ m ≤ 600000000) (hr : rd H id 0 1 = some [.int .i64 x]) :
    ACalls Try.prog F.slide_speedOf_1 [.int .i64 m, .ptr id 0] H (fun v h' => v = .bool (decide (1962 * x < 10 * (m * m))) ∧ h' = H) := by
  have p1 := sq_mono hm.1 hm.2
  have p0 : 0 ≤ m * m := Int.mul_nonneg hm.1 hm.1
  have e : decide (1962 * x < 10 * (m * m)) = decide (1962 * x < m * m * 10) := by rw [Int.mul_comm 10]
  rw [e]
  refine acalls_of ok_slide_speedOf_1 rfl fun hcl => ?_
  unfold ac_slide_speedOf_1
  simp only [argsT, Nat.zero_add, Nat.reduceAdd]
  repeat (first|(with_reducible first|apply X1|apply X2|apply X3|apply X8)|((with_reducible apply e_end);(simp;exact Red.rfl))|((with_reducible apply O1);rfl;(simp (disch:=omega) [hr];exact Red.rfl);exact Red.rfl;(focus (first|(simp;done)|omega|(simp;omega)))))
  refine q_drop0 (.inr rfl) (by simp; exact Red.rfl) (by simp) ⟨rfl, rfl⟩
theorem c_speedOf (H : Heap) (x : Int) (hx : 0 ≤ x ∧ x ≤ 300000) : ACalls Try.prog F.slide_speedOf [.int .i64 x] H (fun v h' => h' = H ∧ ∃ r, v = .int .i64 r ∧ IsDown x r) := by
  have hmm : ∀ m, 0 ≤ m → m + 1 < 1962 * x + 1 → decide (1962 * x < 10 * (m * m)) = true → decide (1962 * x < 10 * ((m + 1) * (m + 1))) = true := by
    intro m h1 h2 h3
    have := sq_mono h1 (show m ≤ m + 1 by omega)
    simp only [decide_eq_true_eq] at h3 ⊢
    omega
  refine acalls_of ok_slide_speedOf rfl fun hcl => ?_
  unfold ac_slide_speedOf
  simp only [argsT, Nat.zero_add, Nat.reduceAdd]
  repeat (first|(with_reducible first|apply X1|apply X2|apply X8)|((with_reducible apply e_end);(simp;exact Red.rfl))|((with_reducible apply O1);rfl;(simp (disch:=omega);exact Red.rfl);exact Red.rfl;(focus (first|(simp;done)|omega|(simp;omega)))))
  (with_reducible apply e_call); (simp; exact Red.rfl); exact c_first _ F.slide_speedOf_1 [.ptr H.length 0] 0 (1962 * x + 1) (fun m => decide (1962 * x < 10 * (m * m))) (by omega) (by omega) (by omega) (by simp) (fun m h1 h2 => c_speedOf1 _ _ m x hx (by omega) (by simp)) hmm
  · rintro _ _ ⟨rfl, r, rfl, h1, h2, h3, h4⟩
    have hlast : 1962 * x < 10 * ((1962 * x + 1) * (1962 * x + 1)) := by have := sq_ge (a := 1962 * x + 1) (by omega); omega
    have hr0 : 1 ≤ r := by
      rcases Int.lt_or_le 0 r with h | h
      · omega
      · obtain rfl : r = 0 := by omega
        have := h4 0 (by omega) (by omega)
        simp only [decide_eq_true_eq] at this; omega
    repeat (first|(with_reducible first|apply X3|apply X8)|((with_reducible apply e_end);(simp;exact Red.rfl))|((with_reducible apply O1);rfl;(simp (disch:=omega);exact Red.rfl);exact Red.rfl;(focus (first|(simp;done)|omega|(simp;omega)))))
    refine q_drop (.inr rfl) (by simp; exact Red.rfl) (by simp) ⟨rfl, r - 1, rfl, by omega, ?_, ?_⟩
    · have := h3 (r - 1) (by omega) (by omega)
      simp only [decide_eq_false_iff_not] at this; omega
    · rw [show r - 1 + 1 = r by omega]
      rcases Int.lt_or_le r (1962 * x + 1) with h | h
      · have := h4 r (by omega) h
        simp only [decide_eq_true_eq] at this; exact this
      · obtain rfl : r = 1962 * x + 1 := by omega
        exact hlast

end Go.Proofs
/- Heights, speeds and least times, told. -/
namespace Go.Proofs
open Go.Abs
attribute [local simp] AOp.den AOpd.ev lk cellsOf rd_new rd_new0 rd_zero rd_succ wr_new wr_new0 wr_zero wr_succ splice fillA binA scal sliceCells List.length_append argsT AV.sc scL AObj.sc resV getAll AR.get AOp.slots opdSlots opdsSlots partSlots eqAt at_new0 at_new set_new0 set_new wrap64
set_option linter.unusedSimpArgs false
set_option linter.unusedVariables false
theorem down_uniq {x a b : Int} (ha : IsDown x a) (hb : IsDown x b) : a = b := by
  obtain ⟨a0, a1, a2⟩ := ha
  obtain ⟨b0, b1, b2⟩ := hb
  rcases Int.lt_trichotomy a b with h | h | h
  · have := sq_mono (a := a + 1) (b := b) (by omega) (by omega); omega
  · exact h
  · have := sq_mono (a := b + 1) (b := a) (by omega) (by omega); omega
theorem down_ex {x : Int} (hx : 0 ≤ x) : ∃ r, IsDown x r := by
  refine Classical.byContradiction fun hno => ?_
  have all : ∀ n : Nat, 10 * ((n : Int) * n) ≤ 1962 * x := by
    intro n
    induction n with
    | zero => simp; omega
    | succ n ih =>
      rcases Int.lt_or_le (1962 * x) (10 * ((n + 1 : Int) * (n + 1))) with h | h
      · exact absurd ⟨n, by omega, ih, h⟩ hno
      · simpa using h
  have := all (1962 * x + 1).toNat
  have h2 := sq_ge (a := 1962 * x + 1) (by omega)
  rw [Int.toNat_of_nonneg (by omega)] at this
  omega
theorem up_ex {x : Int} (hx : 0 ≤ x) : ∃ r, IsUp x r := by
  obtain ⟨r, h0, h1, h2⟩ := down_ex hx
  rcases Int.lt_or_le (10 * (r * r)) (1962 * x) with h | h
  · exact ⟨r + 1, by omega, by omega, .inr (by rw [show r + 1 - 1 = r by omega]; exact h)⟩
  · refine ⟨r, h0, h, ?_⟩
    rcases Int.lt_or_le 0 r with h3 | h3
    · right
      have e : r * r = (r - 1) * (r - 1) + 2 * r - 1 := by
        rw [Int.sub_mul, Int.mul_sub]; omega
      omega
    · left; omega
noncomputable def dnV (x : Int) : Int := if h : 0 ≤ x then Classical.choose (down_ex h) else 0
noncomputable def upV (x : Int) : Int := if h : 0 ≤ x then Classical.choose (up_ex h) else 0
theorem dnV_is {x : Int} (h : 0 ≤ x) : IsDown x (dnV x) := by
  unfold dnV; rw [dif_pos h]; exact Classical.choose_spec (down_ex h)
theorem c_speedOf' (H : Heap) (x : Int) (hx : 0 ≤ x ∧ x ≤ 300000) : ACalls Try.prog F.slide_speedOf [.int .i64 x] H (fun v h' => v = .int .i64 (dnV x) ∧ h' = H) :=
  (c_speedOf H x hx).mono fun _ _ ⟨h, r, hv, hr⟩ => ⟨by rw [hv, down_uniq hr (dnV_is hx.1)], h⟩
theorem c_straight (H : Heap) (x : Str) {b : Bool} (hb : b = true ↔ x.rLo = 0 ∧ x.rHi = 0) : ACalls Try.prog F.slide_straight [.agg x.av] H (fun v h' => v = .bool b ∧ h' = H) := by
  obtain ⟨a1, a2, a3, a4, a5, a6, a7, a8, a9⟩ := x
  simp only [Str.av] at hb ⊢
  refine acalls_of ok_slide_straight rfl fun hcl => ?_
  unfold ac_slide_straight
  simp only [argsT, Nat.zero_add, Nat.reduceAdd]
  repeat (first|(with_reducible first|apply X1|apply X2|apply X3|apply X8)|((with_reducible apply e_end);(simp;exact Red.rfl))|((with_reducible apply O1);rfl;(simp (disch:=omega);exact Red.rfl);exact Red.rfl;(focus (first|(simp;done)|omega|(simp;omega)))))
  refine q_drop (.inr rfl) (by simp; exact Red.rfl) (by simp) ⟨by rw [AV.bool.injEq, Bool.eq_iff_iff, hb]; simp, rfl⟩

theorem c_height (t : Bool) (H : Heap) (s : Sl) (l : List Str) (id off : Nat) (ex : Bool) (hs : rd H id off (l.length * 9) = some (l.flatMap Str.av)) (hk : s.ok) (i : Nat) (hi : i < l.length) (x : Int) (hx : 0 ≤ x ∧ x ≤ 260000)
    (hr : (strAt l i).rLo ≤ (strAt l i).rHi ∧ 500 ≤ (strAt l i).rLo ∧ (strAt l i).rHi ≤ 20000) :
    ACalls Try.prog F.slide_truth_height [.agg (trv t s (.slice id off l.length 9 ex)), .int .i64 i, .int .i64 x] H (fun v h' => v = .int .i64 (htF x (dn t (strAt l i).rLo (strAt l i).rHi) (up t s.t1 s.t2)) ∧ h' = H) := by
  have hR := dn_in t hr.1
  have hT := up_in t hk.2.2.2.2.2.1
  have hT2 := hk.2.2.2.2.2
  generalize hRg : dn t (strAt l i).rLo (strAt l i).rHi = r at hR ⊢
  obtain ⟨c, a1, a2, a3, a4, a5, a6, a7, a8, a9, a10⟩ := s
  dsimp only at hT hT2 ⊢
  generalize hTg : up t a9 a10 = st at hT ⊢
  have p0 : 0 ≤ 1200 * x / (10 * r) := Int.ediv_nonneg (by omega) (by omega)
  have p1 : 1200 * x / (10 * r) ≤ 1200 * x := Int.ediv_le_self _ (by omega)
  have hq : (1200 * x).tdiv (10 * r) = 1200 * x / (10 * r) := Int.tdiv_eq_ediv_of_nonneg (by omega)
  have hid := rd_lt hs
  have hrow := rd_row Str.av_length hs hi
  have hst := strAt_eq hi
  rw [hst] at hRg hr hR
  generalize hsi : l[i] = s at hrow hRg hr hR
  obtain ⟨b1, b2, b3, b4, b5, b6, b7, b8, b9⟩ := s
  simp only [Str.av] at hrow
  have hx2 : rd H id (off + i * 9 + 5) 2 = some [.int .i64 b6, .int .i64 b7] := by simpa using rd_sub hrow (show 5 + 2 ≤ 9 by omega)
  have hi2 : (i : Int) < l.length := by omega
  unfold htF
  simp only [trv, Sl.av, List.cons_append, List.nil_append]
  refine acalls_of ok_slide_truth_height rfl fun hcl => ?_
  unfold ac_slide_truth_height
  simp only [argsT, Nat.zero_add, Nat.reduceAdd]
  repeat (first|(with_reducible first|apply X1|apply X2|apply X8|apply Y9)|((with_reducible apply e_end);(simp;exact Red.rfl))|((first|((with_reducible apply O1);rfl)|((with_reducible apply P1);rfl)|((with_reducible apply P2);rfl));(simp (disch:=omega) [rd_old _ hid, hx2, hi2, hi];exact Red.rfl);exact Red.rfl;(focus (first|(simp;done)|omega|(simp;omega)))))
  (with_reducible apply d_callV); (simp; exact Red.rfl); (simp; exact Red.rfl); exact c_le t _ _ _; (focus (first | (simp; done) | (simp; omega)))
  dsimp only at hRg hr hR
  rw [hRg]
  repeat (first|((with_reducible apply P1);rfl;(simp (disch:=omega) [hq];exact Red.rfl);exact Red.rfl;(focus (first|(simp;done)|omega|(simp;omega))))|((with_reducible apply P6);rfl;(simp (disch:=omega) [hq];exact Red.rfl);exact Red.rfl;(focus (first|(simp [pr];done)|(simp [pr];omega)))))
  (with_reducible apply d_callV); (simp; exact Red.rfl); (simp; exact Red.rfl); exact c_mo t _ _ _; (focus (first | (simp; done) | (simp; omega)))
  rw [hTg]
  repeat (first|(with_reducible first|apply X3|apply X8)|((with_reducible apply d_end);(simp;exact Red.rfl))|((with_reducible apply P1);rfl;(simp (disch:=omega) [hq];exact Red.rfl);exact Red.rfl;(focus (first|(simp;done)|omega|(simp;omega)))))
  refine q_drop (.inr rfl) (by simp; exact Red.rfl) (by simp) ⟨rfl, rfl⟩

theorem curve_rad {l : List Str} (hv : validL l) {i : Nat} (hi : i < l.length) (hc : (strAt l i).side ≠ 0) : (strAt l i).rLo ≤ (strAt l i).rHi ∧ 500 ≤ (strAt l i).rLo ∧ (strAt l i).rHi ≤ 20000 := by
  have h := (str_ok hv hi).1
  simp only [sidedB, decide_eq_true_eq] at h
  omega
theorem str_rad {l : List Str} (hv : validL l) {i : Nat} (hi : i < l.length) : ((strAt l i).rLo = 0 ∧ (strAt l i).rHi = 0) ↔ (strAt l i).side = 0 := by
  have h := (str_ok hv hi).1
  simp only [sidedB, decide_eq_true_eq] at h
  omega
theorem wi_bd {l : List Str} {s : Sl} (hv : validL l) (hs : s.ok) (t : Bool) {i : Nat} (hi : i < l.length) : 0 ≤ wiF (hd t s l) i ∧ wiF (hd t s l) i ≤ 260000 := by
  have h1 := hd_bd hv hs t (i := i) (by omega)
  have h2 := hd_bd hv hs t (i := i + 1) (by omega)
  unfold wiF; omega

end Go.Proofs
/- Truths that choices tell. -/
namespace Go.Proofs
open Go.Abs
attribute [local simp] AOp.den AOpd.ev lk cellsOf rd_new rd_new0 rd_zero rd_succ wr_new wr_new0 wr_zero wr_succ splice fillA binA scal sliceCells List.length_append argsT AV.sc scL AObj.sc resV getAll AR.get AOp.slots opdSlots opdsSlots partSlots eqAt at_new0 at_new set_new0 set_new wrap64
set_option linter.unusedSimpArgs false
set_option linter.unusedVariables false
/-- A number of a span by a choice; often one of its ends. -/
def someG (lo hi b : Int) : Int := if b % 5 = 0 then lo else if b % 5 = 1 then hi else lo + b / 5 % (hi - lo + 1)
/-- What choices tell of a stretch, and of the sled in it. -/
def cL (us : List Int) (l : List Str) (j : Nat) : Int := someG (strAt l j).lLo (strAt l j).lHi (chooseF us (3 + 5 * (j : Int)))
def cF (us : List Int) (l : List Str) (j : Nat) : Int := someG (strAt l j).fLo (strAt l j).fHi (chooseF us (3 + 5 * (j : Int) + 1))
def cR (us : List Int) (s : Sl) (j : Nat) : Int := someG s.r1 s.r2 (chooseF us (3 + 5 * (j : Int) + 2))
def cRad (us : List Int) (l : List Str) (j : Nat) : Int := someG (strAt l j).rLo (strAt l j).rHi (chooseF us (3 + 5 * (j : Int) + 3))
def cT (us : List Int) (s : Sl) (j : Nat) : Int := someG s.t1 s.t2 (chooseF us (3 + 5 * (j : Int) + 4))
def cSt (us : List Int) (s : Sl) : Int := someG s.s1 s.s2 (chooseF us 0)
def cD (us : List Int) (s : Sl) : Int := someG s.d1 s.d2 (chooseF us 1)
def cW (us : List Int) (s : Sl) : Int := someG s.w1 s.w2 (chooseF us 2)
/-- The heads, and the heights, of the truth. -/
def cH (us : List Int) (s : Sl) (l : List Str) : Nat → Int := hdG (cSt us s) (cD us s) (cW us s) (cR us s) (cL us l) (cF us l)
def cU (us : List Int) (s : Sl) (l : List Str) (j : Nat) : Int := if (strAt l j).side = 0 then 0 else htF (wiF (cH us s l) j) (cRad us l j) (cT us s j)

end Go.Proofs
/- What is told holds every truth. -/
namespace Go.Proofs
open Go.Abs
attribute [local simp] AOp.den AOpd.ev lk cellsOf rd_new rd_new0 rd_zero rd_succ wr_new wr_new0 wr_zero wr_succ splice fillA binA scal sliceCells List.length_append argsT AV.sc scL AObj.sc resV getAll AR.get AOp.slots opdSlots opdsSlots partSlots eqAt at_new0 at_new set_new0 set_new wrap64
set_option linter.unusedSimpArgs false
set_option linter.unusedVariables false
end Go.Proofs
