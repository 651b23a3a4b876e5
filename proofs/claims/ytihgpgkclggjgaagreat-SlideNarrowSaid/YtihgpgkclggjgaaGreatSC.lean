/- Several texts as one. -/
import Derived.Test.YtihgpgkclggjgaaGreatSA
/- Speeds and heights. -/
namespace Go.Proofs
open Go.Abs
attribute [local simp] AOp.den AOpd.ev lk cellsOf rd_new rd_new0 rd_zero rd_succ wr_new wr_new0 wr_zero wr_succ splice fillA binA scal sliceCells List.length_append argsT AV.sc scL AObj.sc resV getAll AR.get AOp.slots opdSlots opdsSlots partSlots eqAt at_new0 at_new set_new0 set_new wrap64
set_option linter.unusedSimpArgs false
set_option linter.unusedVariables false
def IsDown (h v : Int) : Prop := 0 ≤ v ∧ 10 * (v * v) ≤ 1962 * h ∧ 1962 * h < 10 * ((v + 1) * (v + 1))
def IsUp (h v : Int) : Prop := 0 ≤ v ∧ 1962 * h ≤ 10 * (v * v) ∧ (v = 0 ∨ 10 * ((v - 1) * (v - 1)) < 1962 * h)
theorem sq_ge {a : Int} (h : 0 ≤ a) : a ≤ a * a := by
  rcases Int.lt_or_le 0 a with h1 | h1
  · have := Int.mul_le_mul_of_nonneg_left (show (1 : Int) ≤ a by omega) h; omega
  · obtain rfl : a = 0 := by omega
    simp

theorem down_ex {x : Int} (hx : 0 ≤ x) : ∃ r, IsDown x r := by
  refine Classical.byContradiction fun hno => ?_
  have all : ∀ n : Nat, 10 * ((n : Int) * n) ≤ 1962 * x := by
    intro n
    induction n with
    | zero => simp; omega
    | succ n ih =>
      rcases Int.lt_or_le (1962 * x) (10 * ((n + 1 : Int) * (n + 1))) with h | h
      · exact absurd ⟨n, by omega, ih, h⟩ hno
      · simpa using h
  have := all (1962 * x + 1).toNat
  have h2 := sq_ge (a := 1962 * x + 1) (by omega)
  rw [Int.toNat_of_nonneg (by omega)] at this
  omega
theorem up_ex {x : Int} (hx : 0 ≤ x) : ∃ r, IsUp x r := by
  obtain ⟨r, h0, h1, h2⟩ := down_ex hx
  rcases Int.lt_or_le (10 * (r * r)) (1962 * x) with h | h
  · exact ⟨r + 1, by omega, by omega, .inr (by rw [show r + 1 - 1 = r by omega]; exact h)⟩
  · refine ⟨r, h0, h, ?_⟩
    rcases Int.lt_or_le 0 r with h3 | h3
    · right
      have e : r * r = (r - 1) * (r - 1) + 2 * r - 1 := by
        rw [Int.sub_mul, Int.mul_sub]; omega
      omega
    · left; omega
noncomputable def dnV (x : Int) : Int := if h : 0 ≤ x then Classical.choose (down_ex h) else 0
noncomputable def upV (x : Int) : Int := if h : 0 ≤ x then Classical.choose (up_ex h) else 0
theorem c_straight (H : Heap) (x : Str) {b : Bool} (hb : b = true ↔ x.rLo = 0 ∧ x.rHi = 0) : ACalls Tryz.prog F.slide_straight [.agg x.av] H (fun v h' => v = .bool b ∧ h' = H) := by
  obtain ⟨a1, a2, a3, a4, a5, a6, a7, a8, a9⟩ := x
  simp only [Str.av] at hb ⊢
  refine acalls_of ok_slide_straight rfl fun hcl => ?_
  unfold ac_slide_straight
  simp only [argsT, Nat.zero_add, Nat.reduceAdd]
  repeat (first|(with_reducible first|apply X1|apply X2|apply X3|apply X8)|((with_reducible apply e_end);(simp;exact Red.rfl))|((with_reducible apply O1);rfl;(simp (disch:=omega);exact Red.rfl);exact Red.rfl;(focus (first|(simp;done)|omega|(simp;omega)))))
  refine q_drop (.inr rfl) (by simp; exact Red.rfl) (by simp) ⟨by rw [AV.bool.injEq, Bool.eq_iff_iff, hb]; simp, rfl⟩

theorem c_height (t : Bool) (H : Heap) (s : Sl) (l : List Str) (id off : Nat) (ex : Bool) (hs : rd H id off (l.length * 9) = some (l.flatMap Str.av)) (hk : s.ok) (i : Nat) (hi : i < l.length) (x : Int) (hx : 0 ≤ x ∧ x ≤ 260000)
    (hr : (strAt l i).rLo ≤ (strAt l i).rHi ∧ 500 ≤ (strAt l i).rLo ∧ (strAt l i).rHi ≤ 20000) :
    ACalls Tryz.prog F.slide_truth_height [.agg (trv t s (.slice id off l.length 9 ex)), .int .i64 i, .int .i64 x] H (fun v h' => v = .int .i64 (htF x (dn t (strAt l i).rLo (strAt l i).rHi) (up t s.t1 s.t2)) ∧ h' = H) := by
  have hR := dn_in t hr.1
  have hT := up_in t hk.2.2.2.2.2.1
  have hT2 := hk.2.2.2.2.2
  generalize hRg : dn t (strAt l i).rLo (strAt l i).rHi = r at hR ⊢
  obtain ⟨c, a1, a2, a3, a4, a5, a6, a7, a8, a9, a10⟩ := s
  dsimp only at hT hT2 ⊢
  generalize hTg : up t a9 a10 = st at hT ⊢
  have p0 : 0 ≤ 1200 * x / (10 * r) := Int.ediv_nonneg (by omega) (by omega)
  have p1 : 1200 * x / (10 * r) ≤ 1200 * x := Int.ediv_le_self _ (by omega)
  have hq : (1200 * x).tdiv (10 * r) = 1200 * x / (10 * r) := Int.tdiv_eq_ediv_of_nonneg (by omega)
  have hid := rd_lt hs
  have hrow := rd_row Str.av_length hs hi
  have hst := strAt_eq hi
  rw [hst] at hRg hr hR
  generalize hsi : l[i] = s at hrow hRg hr hR
  obtain ⟨b1, b2, b3, b4, b5, b6, b7, b8, b9⟩ := s
  simp only [Str.av] at hrow
  have hx2 : rd H id (off + i * 9 + 5) 2 = some [.int .i64 b6, .int .i64 b7] := by simpa using rd_sub hrow (show 5 + 2 ≤ 9 by omega)
  have hi2 : (i : Int) < l.length := by omega
  unfold htF
  simp only [trv, Sl.av, List.cons_append, List.nil_append]
  refine acalls_of ok_slide_truth_height rfl fun hcl => ?_
  unfold ac_slide_truth_height
  simp only [argsT, Nat.zero_add, Nat.reduceAdd]
  repeat (first|(with_reducible first|apply X1|apply X2|apply X8|apply Y9)|((with_reducible apply e_end);(simp;exact Red.rfl))|((first|((with_reducible apply O1);rfl)|((with_reducible apply P1);rfl)|((with_reducible apply P2);rfl));(simp (disch:=omega) [rd_old _ hid, hx2, hi2, hi];exact Red.rfl);exact Red.rfl;(focus (first|(simp;done)|omega|(simp;omega)))))
  (with_reducible apply d_callV); (simp; exact Red.rfl); (simp; exact Red.rfl); exact c_le t _ _ _; (focus (first | (simp; done) | (simp; omega)))
  dsimp only at hRg hr hR
  rw [hRg]
  repeat (first|((with_reducible apply P1);rfl;(simp (disch:=omega) [hq];exact Red.rfl);exact Red.rfl;(focus (first|(simp;done)|omega|(simp;omega))))|((with_reducible apply P6);rfl;(simp (disch:=omega) [hq];exact Red.rfl);exact Red.rfl;(focus (first|(simp [pr];done)|(simp [pr];omega)))))
  (with_reducible apply d_callV); (simp; exact Red.rfl); (simp; exact Red.rfl); exact c_mo t _ _ _; (focus (first | (simp; done) | (simp; omega)))
  rw [hTg]
  repeat (first|(with_reducible first|apply X3|apply X8)|((with_reducible apply d_end);(simp;exact Red.rfl))|((with_reducible apply P1);rfl;(simp (disch:=omega) [hq];exact Red.rfl);exact Red.rfl;(focus (first|(simp;done)|omega|(simp;omega)))))
  refine q_drop (.inr rfl) (by simp; exact Red.rfl) (by simp) ⟨rfl, rfl⟩

theorem curve_rad {l : List Str} (hv : validL l) {i : Nat} (hi : i < l.length) (hc : (strAt l i).side ≠ 0) : (strAt l i).rLo ≤ (strAt l i).rHi ∧ 500 ≤ (strAt l i).rLo ∧ (strAt l i).rHi ≤ 20000 := by
  have h := (str_ok hv hi).1
  simp only [sidedB, decide_eq_true_eq] at h
  omega
theorem str_rad {l : List Str} (hv : validL l) {i : Nat} (hi : i < l.length) : ((strAt l i).rLo = 0 ∧ (strAt l i).rHi = 0) ↔ (strAt l i).side = 0 := by
  have h := (str_ok hv hi).1
  simp only [sidedB, decide_eq_true_eq] at h
  omega
theorem wi_bd {l : List Str} {s : Sl} (hv : validL l) (hs : s.ok) (t : Bool) {i : Nat} (hi : i < l.length) : 0 ≤ wiF (hd t s l) i ∧ wiF (hd t s l) i ≤ 260000 := by
  have h1 := hd_bd hv hs t (i := i) (by omega)
  have h2 := hd_bd hv hs t (i := i + 1) (by omega)
  unfold wiF; omega

theorem c_Height (H : Heap) (l : List Str) (id off : Nat) (ex : Bool) (s : Sl) (hs : rd H id off (l.length * 9) = some (l.flatMap Str.av)) (hv : validL l) (hk : s.ok) (i : Nat) (hi : i < l.length) (hc : (strAt l i).side ≠ 0) :
    ACalls Tryz.prog F.slide_Height [.agg [.slice id off l.length 9 ex], .agg s.av, .int .i64 i] H (fun v h' => v = .tuple [.agg [.int .i64 (htF (wiF (hd false s l) i) (strAt l i).rHi s.t1), .int .i64 (htF (wiF (hd true s l) i) (strAt l i).rLo s.t2)], .int .i64 0] ∧ h' = H) := by
  have hid := rd_lt hs
  have h12 := hv.1
  have ck := fun H' h1 xid h2 => c_checkOne H' l id off ex s xid 0 true h1 hv hk h2
  have cs := fun H' h => c_slowest H' s id off l.length ex h
  have cf := fun H' h => c_fastest H' s id off l.length ex h
  have cw := fun t H' h => c_swithin t H' s l id off ex h hv hk
  have cr := curve_rad hv hi hc
  have cb1 := wi_bd hv hk false hi
  have cb2 := wi_bd hv hk true hi
  have chh := fun t H' h x hx => c_height t H' s l id off ex h hk i hi x hx cr
  have hst := strAt_eq hi
  have hrow := rd_row Str.av_length hs hi
  rw [← hst] at hrow
  have cst := fun H' => c_straight H' (strAt l i) (b := false) (by simp; omega)
  have hi2 : (i : Int) < l.length := by omega
  have hi3 : (i : Int) ≤ (l.length : Int) - 1 := by omega
  simp only [Str.av] at hrow
  simp only [trv, Sl.av, Str.av, List.cons_append, List.nil_append] at ck cs cf cw chh cst ⊢
  refine acalls_of ok_slide_Height rfl fun hcl => ?_
  unfold ac_slide_Height
  simp only [argsT, Nat.zero_add, Nat.reduceAdd]
  repeat (first|(with_reducible first|apply X1|apply X2|apply X8)|((with_reducible apply e_end);(simp;exact Red.rfl))|((with_reducible apply O1);rfl;(simp (disch:=omega);exact Red.rfl);exact Red.rfl;(focus (first|(simp;done)|omega|(simp;omega)))))
  (with_reducible apply e_call); (simp; exact Red.rfl); exact ck _ (by rw [rd_old _ hid]; exact hs) _ (by simp)
  rintro _ _ ⟨rfl, rfl⟩
  repeat (first|(with_reducible first|apply X1|apply X2|apply X5|apply X8)|((with_reducible apply e_end);(simp;exact Red.rfl))|((with_reducible apply O1);rfl;(simp (disch:=omega);exact Red.rfl);exact Red.rfl;(focus (first|(simp;done)|omega|(simp;omega))))|((with_reducible apply W3);(simp (disch:=omega);exact Red.rfl)))
  (with_reducible apply e_call); (simp; exact Red.rfl); exact c_upto _ _
  rintro _ _ ⟨rfl, rfl⟩
  repeat ((with_reducible apply O1);rfl;(simp (disch:=omega);exact Red.rfl);exact Red.rfl;(focus (first|(simp;done)|omega|(simp;omega))))
  (with_reducible apply e_call); (simp; exact Red.rfl); exact c_within _ _ _ [(i : Int)] _ 0 true (by simp) (by simp)
  rintro _ _ ⟨rfl, rfl⟩
  repeat (first|((with_reducible apply O1);rfl;(simp (disch:=omega) [hi, hi2, hi3, rd_old _ hid, hrow];exact Red.rfl);exact Red.rfl;(focus (first|(simp;done)|omega|(simp;omega))))|((with_reducible apply Z7);(simp (disch:=omega) [hi, hi2, hi3, rd_old _ hid, hrow];exact Red.rfl)))
  (with_reducible apply e_call); (simp; exact Red.rfl); exact cst _
  rintro _ _ ⟨rfl, rfl⟩
  repeat (first|(with_reducible first|apply X1|apply X2|apply X5|apply X8|apply Y9)|((with_reducible apply e_end);(simp;exact Red.rfl))|((first|((with_reducible apply O1);rfl)|((with_reducible apply O2);rfl)|((with_reducible apply P2);rfl));(simp (disch:=omega);exact Red.rfl);exact Red.rfl;(focus (first|(simp;done)|omega|(simp;omega))))|((with_reducible apply W3);(simp (disch:=omega);exact Red.rfl)))
  (with_reducible apply d_call); (simp; exact Red.rfl); exact cs _ (by simp; omega); (focus (first | (simp; done) | (simp; omega)))
  repeat ((with_reducible apply P6);rfl;(simp (disch:=omega);exact Red.rfl);exact Red.rfl;(focus (first|(simp [pr];done)|(simp [pr];omega))))
  (with_reducible apply d_call); (simp; exact Red.rfl); exact cf _ (by simp; omega); (focus (first | (simp; done) | (simp; omega)))
  repeat (first|(with_reducible first|apply X1|apply X8|apply Y9)|((with_reducible apply d_end);(simp;exact Red.rfl))|((first|((with_reducible apply P1);rfl)|((with_reducible apply P2);rfl)|((with_reducible apply P3);rfl)|((with_reducible apply P4);rfl));(simp (disch:=omega);exact Red.rfl);exact Red.rfl;(focus (first|(simp;done)|omega|(simp;omega)))))
  (with_reducible apply d_call_); (simp; exact Red.rfl); exact cw false _ (by rw [rd_old _ hid]; exact hs); (focus (first | (simp; done) | (simp; omega)))
  have q1 : ((avR (r1 (wiF (hd false s l))) l.length).drop i).take 1 = [.int .i64 (wiF (hd false s l) i)] := by
    simpa [r1] using (plain_r1 (wiF (hd false s l))).part (n := l.length) (i := i) (c := 0) (m := 1) hi (by omega)
  have q2 : ((avR (r1 (wiF (hd true s l))) l.length).drop i).take 1 = [.int .i64 (wiF (hd true s l) i)] := by
    simpa [r1] using (plain_r1 (wiF (hd true s l))).part (n := l.length) (i := i) (c := 0) (m := 1) hi (by omega)
  have l1 := (plain_r1 (wiF (hd false s l))).length l.length
  have l2 := (plain_r1 (wiF (hd true s l))).length l.length
  have le1 : i + 1 ≤ l.length := hi
  repeat ((first|((with_reducible apply P1);rfl)|((with_reducible apply P2);rfl));(simp (disch:=omega) [hi, hi2, q1, l1, le1];exact Red.rfl);exact Red.rfl;(focus (first|(simp;done)|omega|(simp;omega))))
  (with_reducible apply d_call); (simp; exact Red.rfl); exact chh false _ (by simp only [List.append_assoc, rd_old _ hid]; exact hs) _ cb1; (focus (first | (simp; done) | (simp; omega)))
  repeat (first|((with_reducible apply P1);rfl;(simp (disch:=omega);exact Red.rfl);exact Red.rfl;(focus (first|(simp;done)|omega|(simp;omega))))|((with_reducible apply P7);rfl;(simp (disch:=omega);exact Red.rfl);exact Red.rfl;(focus (simp [repast, pr, AOp.sem];done))))
  (with_reducible apply d_call_); (simp; exact Red.rfl); exact cw true _ (by simp only [List.append_assoc, rd_old _ hid]; exact hs); (focus (first | (simp; done) | (simp; omega)))
  repeat ((first|((with_reducible apply P1);rfl)|((with_reducible apply P2);rfl));(simp (disch:=omega) [hi, hi2, q2, l2, le1];exact Red.rfl);exact Red.rfl;(focus (first|(simp;done)|omega|(simp;omega))))
  (with_reducible apply d_call); (simp; exact Red.rfl); exact chh true _ (by simp only [List.append_assoc, rd_old _ hid]; exact hs) _ cb2; (focus (first | (simp; done) | (simp; omega)))
  repeat (first|(with_reducible first|apply X3|apply X8)|((with_reducible apply d_end);(simp;exact Red.rfl))|((first|((with_reducible apply P1);rfl)|((with_reducible apply P4);rfl));(simp (disch:=omega);exact Red.rfl);exact Red.rfl;(focus (first|(simp;done)|omega|(simp;omega)))))
  refine q_drop (.inr rfl) (by simp; exact Red.rfl) (by simp) ⟨rfl, rfl⟩

def someG (lo hi b : Int) : Int := if b % 5 = 0 then lo else if b % 5 = 1 then hi else lo + b / 5 % (hi - lo + 1)
theorem someG_in {lo hi b : Int} (h : lo ≤ hi) : lo ≤ someG lo hi b ∧ someG lo hi b ≤ hi := by
  have h1 := Int.emod_nonneg (b / 5) (show hi - lo + 1 ≠ 0 by omega)
  have h2 := Int.emod_lt_of_pos (b / 5) (show 0 < hi - lo + 1 by omega)
  unfold someG
  split
  · omega
  · split <;> omega
def cL (us : List Int) (l : List Str) (j : Nat) : Int := someG (strAt l j).lLo (strAt l j).lHi (chooseF us (3 + 5 * (j : Int)))
def cF (us : List Int) (l : List Str) (j : Nat) : Int := someG (strAt l j).fLo (strAt l j).fHi (chooseF us (3 + 5 * (j : Int) + 1))
def cR (us : List Int) (s : Sl) (j : Nat) : Int := someG s.r1 s.r2 (chooseF us (3 + 5 * (j : Int) + 2))
def cRad (us : List Int) (l : List Str) (j : Nat) : Int := someG (strAt l j).rLo (strAt l j).rHi (chooseF us (3 + 5 * (j : Int) + 3))
def cT (us : List Int) (s : Sl) (j : Nat) : Int := someG s.t1 s.t2 (chooseF us (3 + 5 * (j : Int) + 4))
def cSt (us : List Int) (s : Sl) : Int := someG s.s1 s.s2 (chooseF us 0)
def cD (us : List Int) (s : Sl) : Int := someG s.d1 s.d2 (chooseF us 1)
def cW (us : List Int) (s : Sl) : Int := someG s.w1 s.w2 (chooseF us 2)
def cH (us : List Int) (s : Sl) (l : List Str) : Nat → Int := hdG (cSt us s) (cD us s) (cW us s) (cR us s) (cL us l) (cF us l)
def cU (us : List Int) (s : Sl) (l : List Str) (j : Nat) : Int := if (strAt l j).side = 0 then 0 else htF (wiF (cH us s l) j) (cRad us l j) (cT us s j)

theorem cH_in {us : List Int} {s : Sl} {l : List Str} (hv : validL l) (hs : s.ok) {i : Nat} (hi : i ≤ l.length) : hd false s l i ≤ cH us s l i ∧ cH us s l i ≤ hd true s l i := by
  obtain ⟨k0, k1, k2, k3, k4, k5⟩ := hs
  have a1 := someG_in (b := chooseF us 0) k1.1
  have a3 := someG_in (b := chooseF us 1) k3.1
  have a4 := someG_in (b := chooseF us 2) k4.1
  have b2 : ∀ j : Nat, s.r1 ≤ cR us s j ∧ cR us s j ≤ s.r2 := fun j => someG_in k2.1
  have bL : ∀ j, j < l.length → (strAt l j).lLo ≤ cL us l j ∧ cL us l j ≤ (strAt l j).lHi := fun j hj => someG_in (str_ok hv hj).2.2.1.1
  have bF : ∀ j, j < l.length → (strAt l j).fLo ≤ cF us l j ∧ cF us l j ≤ (strAt l j).fHi := fun j hj => someG_in (str_ok hv hj).2.2.2.1.1
  have o := fun j hj => (str_ok hv (j := j) hj).2.2
  constructor
  · exact (hdG_mono (n := l.length) (by simp [up]; omega) (by simp only [up, cSt]; simp; omega) (by simp only [cD]; omega) (by simp only [dn, cD]; simp; omega) (by simp [up]; omega) (by simp only [up, cW]; simp; omega)
      (fun j _ => by have := b2 j; simp [dn]; omega) (fun j hj => by have := bL j hj; have := o j hj; simp [dn]; omega) (fun j hj => by have := bF j hj; simp [up]; omega) i hi).2
  · exact (hdG_mono (n := l.length) (by simp only [cSt]; omega) (by simp only [up, cSt]; simp; omega) (by simp [dn]; omega) (by simp only [dn, cD]; simp; omega) (by simp only [cW]; omega) (by simp only [up, cW]; simp; omega)
      (fun j _ => by have := b2 j; simp [dn]; omega) (fun j hj => by have := bL j hj; have := o j hj; simp [dn]; omega) (fun j hj => by have := bF j hj; simp [up]; omega) i hi).2
def lsF (L v : Int) : Int := (L * 1000 + v - 1) / v
end Go.Proofs
