/- Several texts as one. -/
import Derived.Test.YtihgpgkclggjgaaGreatCC
import Derived.Test.YtihgpgkclggjgaaGreatDD
import Derived.Test.YtihgpgkclggjgaaGreatAc1
/- Heads, speeds and heights of sleds: their arithmetic. -/
namespace Go.Proofs
open Go.Abs
attribute [local simp] AOp.den AOpd.ev lk cellsOf rd_new rd_new0 rd_zero rd_succ wr_new wr_new0 wr_zero wr_succ splice fillA binA scal sliceCells List.length_append argsT AV.sc scL AObj.sc resV getAll AR.get AOp.slots opdSlots opdsSlots partSlots eqAt at_new0 at_new set_new0 set_new wrap64
set_option linter.unusedSimpArgs false
set_option linter.unusedVariables false
def nx (h d L f r w : Int) : Int := max 0 (max 0 (h - h * (d * L) / (100 * w)) + f - r * L / 100)

theorem div_mono {a b c d : Int} (ha : 0 ≤ a) (hab : a ≤ b) (hd : 0 < d) (hdc : d ≤ c) : a / c ≤ b / d := by
  have h1 : a / c * c ≤ a := Int.ediv_mul_le a (by omega)
  have h2 : a / c * d ≤ a / c * c := Int.mul_le_mul_of_nonneg_left hdc (Int.ediv_nonneg ha (by omega))
  exact (Int.le_ediv_iff_mul_le hd).2 (by omega)
theorem left_mono {h h' a a' b b' : Int} (hh : 0 ≤ h) (h1 : h ≤ h') (ha' : 0 ≤ a') (ha : a' ≤ a) (hb : 0 < b) (hb' : b ≤ b') : max 0 (h - h * a / b) ≤ max 0 (h' - h' * a' / b') := by
  have s1 : h' * a' / b' ≤ h' * a / b := div_mono (Int.mul_nonneg (by omega) ha') (Int.mul_le_mul_of_nonneg_left ha (by omega)) hb hb'
  have s2 : max 0 (h - h * a / b) ≤ max 0 (h' - h' * a / b) := by
    rcases Int.le_total a b with hab | hab
    · have e1 : h' * a ≤ h * a + (h' - h) * b := by
        have : (h' - h) * a ≤ (h' - h) * b := Int.mul_le_mul_of_nonneg_left hab (by omega)
        have e : h' * a = h * a + (h' - h) * a := by rw [← Int.add_mul]; congr 1; omega
        omega
      have e2 : h' * a / b ≤ (h * a + (h' - h) * b) / b := Int.ediv_le_ediv hb e1
      rw [Int.add_mul_ediv_right _ _ (by omega)] at e2
      omega
    · have e1 : h ≤ h * a / b := (Int.le_ediv_iff_mul_le hb).2 (Int.mul_le_mul_of_nonneg_left hab hh)
      omega
  omega
theorem nx_mono {h h' d d' L L' f f' r r' w w' : Int} (hh : 0 ≤ h) (h1 : h ≤ h') (hd : 0 ≤ d') (hd' : d' ≤ d) (hL : 0 ≤ L') (hL' : L' ≤ L) (hf : f ≤ f') (hr : 0 ≤ r') (hr' : r' ≤ r) (hw : 0 < w) (hw' : w ≤ w') :
    nx h d L f r w ≤ nx h' d' L' f' r' w' := by
  have s1 : d' * L' ≤ d * L := Int.le_trans (Int.mul_le_mul_of_nonneg_left hL' hd) (Int.mul_le_mul_of_nonneg_right hd' (by omega))
  have s2 := left_mono (h := h) (h' := h') (a := d * L) (a' := d' * L') (b := 100 * w) (b' := 100 * w') hh h1 (Int.mul_nonneg hd hL) s1 (by omega) (by omega)
  have s3 : r' * L' / 100 ≤ r * L / 100 := Int.ediv_le_ediv (by omega) (Int.le_trans (Int.mul_le_mul_of_nonneg_left hL' hr) (Int.mul_le_mul_of_nonneg_right hr' (by omega)))
  unfold nx
  omega
theorem nx_nonneg (h d L f r w : Int) : 0 ≤ nx h d L f r w := by unfold nx; omega
theorem nx_le {h d L f r w : Int} (hh : 0 ≤ h) (hd : 0 ≤ d) (hL : 0 ≤ L) (hf : 0 ≤ f) (hr : 0 ≤ r) (hw : 0 < w) : nx h d L f r w ≤ h + f := by
  have h1 : 0 ≤ h * (d * L) / (100 * w) := Int.ediv_nonneg (Int.mul_nonneg hh (Int.mul_nonneg hd hL)) (by omega)
  have h2 : 0 ≤ r * L / 100 := Int.ediv_nonneg (Int.mul_nonneg hr hL) (by omega)
  unfold nx; omega

structure Sl where
  c : Int
  s1 : Int
  s2 : Int
  r1 : Int
  r2 : Int
  d1 : Int
  d2 : Int
  w1 : Int
  w2 : Int
  t1 : Int
  t2 : Int
def Sl.av (s : Sl) : List AV := [.int .u8 s.c, .int .i64 s.s1, .int .i64 s.s2, .int .i64 s.r1, .int .i64 s.r2, .int .i64 s.d1, .int .i64 s.d2, .int .i64 s.w1, .int .i64 s.w2, .int .i64 s.t1, .int .i64 s.t2]
theorem Sl.av_length (s : Sl) : s.av.length = 11 := rfl
def Sl.ok (s : Sl) : Prop := (1 ≤ s.c ∧ s.c ≤ 3) ∧ (s.s1 ≤ s.s2 ∧ 0 ≤ s.s1 ∧ s.s2 ≤ 200000) ∧ (s.r1 ≤ s.r2 ∧ 0 ≤ s.r1 ∧ s.r2 ≤ 100) ∧ (s.d1 ≤ s.d2 ∧ 0 ≤ s.d1 ∧ s.d2 ≤ 1000) ∧ (s.w1 ≤ s.w2 ∧ 50000 ≤ s.w1 ∧ s.w2 ≤ 800000) ∧ (s.t1 ≤ s.t2 ∧ -500 ≤ s.t1 ∧ s.t2 ≤ 500)

def up (t : Bool) (lo hi : Int) : Int := if t = true then hi else lo
def dn (t : Bool) (lo hi : Int) : Int := if t = true then lo else hi
theorem up_in (t : Bool) {lo hi : Int} (h : lo ≤ hi) : lo ≤ up t lo hi ∧ up t lo hi ≤ hi := by cases t <;> simp [up, h]
theorem dn_in (t : Bool) {lo hi : Int} (h : lo ≤ hi) : lo ≤ dn t lo hi ∧ dn t lo hi ≤ hi := by cases t <;> simp [dn, h]

def hdG (st d w : Int) (r L f : Nat → Int) : Nat → Int
  | 0 => st
  | i + 1 => nx (hdG st d w r L f i) d (L i) (f i) (r i) w
def hd (t : Bool) (s : Sl) (l : List Str) : Nat → Int :=
  hdG (up t s.s1 s.s2) (dn t s.d1 s.d2) (up t s.w1 s.w2) (fun _ => dn t s.r1 s.r2) (fun j => dn t (strAt l j).lLo (strAt l j).lHi) (fun j => up t (strAt l j).fLo (strAt l j).fHi)

theorem hdG_mono {st st' d d' w w' : Int} {r r' L L' f f' : Nat → Int} {n : Nat} (h0 : 0 ≤ st) (h1 : st ≤ st') (hd : 0 ≤ d') (hd' : d' ≤ d) (hw : 0 < w) (hw' : w ≤ w')
    (hr : ∀ j, j < n → 0 ≤ r' j ∧ r' j ≤ r j) (hL : ∀ j, j < n → 0 ≤ L' j ∧ L' j ≤ L j) (hf : ∀ j, j < n → f j ≤ f' j) : ∀ i, i ≤ n → 0 ≤ hdG st d w r L f i ∧ hdG st d w r L f i ≤ hdG st' d' w' r' L' f' i
  | 0, _ => ⟨h0, h1⟩
  | i + 1, hi => by
    obtain ⟨e1, e2⟩ := hdG_mono h0 h1 hd hd' hw hw' hr hL hf i (by omega)
    simp only [hdG]
    exact ⟨nx_nonneg _ _ _ _ _ _, nx_mono e1 e2 hd hd' (hL i (by omega)).1 (hL i (by omega)).2 (hf i (by omega)) (hr i (by omega)).1 (hr i (by omega)).2 hw hw'⟩
theorem hdG_bd {st d w : Int} {r L f : Nat → Int} {n : Nat} (h0 : 0 ≤ st) (h1 : st ≤ 200000) (hd : 0 ≤ d) (hw : 0 < w)
    (hr : ∀ j, j < n → 0 ≤ r j) (hL : ∀ j, j < n → 0 ≤ L j) (hf : ∀ j, j < n → 0 ≤ f j ∧ f j ≤ 5000) : ∀ i, i ≤ n → 0 ≤ hdG st d w r L f i ∧ hdG st d w r L f i ≤ 200000 + 5000 * (i : Int)
  | 0, _ => by simp only [hdG]; omega
  | i + 1, hi => by
    obtain ⟨e1, e2⟩ := hdG_bd h0 h1 hd hw hr hL hf i (by omega)
    have e3 := hf i (by omega)
    have e4 := nx_le (d := d) (L := L i) (f := f i) (r := r i) (w := w) e1 hd (hL i (by omega)) e3.1 (hr i (by omega)) hw
    simp only [hdG]
    refine ⟨nx_nonneg _ _ _ _ _ _, ?_⟩
    omega

theorem str_ok {l : List Str} (hv : validL l) {j : Nat} (hj : j < l.length) : (strAt l j).ok := by
  rw [strAt_eq hj]; exact (hv.2 j hj).2.1
theorem hd_bd {l : List Str} {s : Sl} (hv : validL l) (hs : s.ok) (t : Bool) {i : Nat} (hi : i ≤ l.length) : 0 ≤ hd t s l i ∧ hd t s l i ≤ 260000 := by
  obtain ⟨k0, k1, k2, k3, k4, k5⟩ := hs
  have a1 := up_in t k1.1
  have a2 := dn_in t k2.1
  have a3 := dn_in t k3.1
  have a4 := up_in t k4.1
  have := hdG_bd (st := up t s.s1 s.s2) (d := dn t s.d1 s.d2) (r := fun _ => dn t s.r1 s.r2) (w := up t s.w1 s.w2) (L := fun j => dn t (strAt l j).lLo (strAt l j).lHi) (f := fun j => up t (strAt l j).fLo (strAt l j).fHi) (n := l.length)
    (by omega) (by omega) (by omega) (by omega) (fun _ _ => by omega)
    (fun j hj => by have := (str_ok hv hj).2.2; have := dn_in t this.1.1; omega)
    (fun j hj => by have := (str_ok hv hj).2.2.2; have := up_in t this.1.1; omega) i hi
  have := hv.1.2
  unfold hd
  omega

def wiF (h : Nat → Int) (j : Nat) : Int := max (h j) (h (j + 1))
def htF (head rad steer : Int) : Int := 1200 * head / (10 * rad) + steer
theorem ht_mono {h h' r r' t t' : Int} (h0 : 0 ≤ h) (h1 : h ≤ h') (hr : 0 < r') (hr' : r' ≤ r) (ht : t ≤ t') : htF h r t ≤ htF h' r' t' := by
  have := div_mono (a := 1200 * h) (b := 1200 * h') (c := 10 * r) (d := 10 * r') (by omega) (by omega) (by omega) (by omega)
  unfold htF; omega
structure Lim where
  a : Int
  b : Int
  lo : Int
  hi : Int
def Lim.av (x : Lim) : List AV := [.int .i64 x.a, .int .i64 x.b, .int .i64 x.lo, .int .i64 x.hi]
theorem Lim.av_length (x : Lim) : x.av.length = 4 := rfl
def Lim.ok (x : Lim) : Prop := x.a ≤ x.b ∧ x.lo ≤ x.a ∧ x.b ≤ x.hi

theorem c_Valid (H : Heap) (xs : List Lim) (id off : Nat) (ex : Bool) (hs : rd H id off (xs.length * 4) = some (xs.flatMap Lim.av)) (hn : (xs.length : Int) < 1000000) {b : Bool} (hb : b = true ↔ ∀ j (hj : j < xs.length), xs[j].ok) :
    ACalls Tryz.prog F.span_Valid [.slice id off xs.length 4 ex] H (fun v h' => v = .bool b ∧ h' = H) := by
  refine acalls_of ok_span_Valid rfl fun hcl => ?_
  unfold ac_span_Valid
  simp only [argsT, Nat.zero_add, Nat.reduceAdd]
  have hid := rd_lt hs
  repeat (first|(with_reducible first|apply X1|apply X2|apply X6|apply X8)|((with_reducible apply e_end);(simp;exact Red.rfl))|((with_reducible apply O1);rfl;(simp (disch:=omega);exact Red.rfl);exact Red.rfl;(focus (first|(simp;done)|omega|(simp;omega)))))
  refine e_loop (ι := { i : Nat // i ≤ xs.length ∧ ∀ j (hj : j < xs.length), j < i → xs[j].ok })
    (fun i => [(5, .slice id off xs.length 4 ex), (6, .int .i64 xs.length), (7, .int .i64 i.1)]) (fun _ => H) (fun i => xs.length - i.1) ⟨0, by simp⟩ ?_ ?_
  · exact .inr <| le_id (by simp [hid])
  · rintro ⟨i, hi1, hi2⟩
    dsimp only
    repeat (first|(with_reducible first|apply X1|apply X2|apply X8)|((with_reducible apply e_end);(simp;exact Red.rfl))|((with_reducible apply O1);rfl;(simp (disch:=omega);exact Red.rfl);exact Red.rfl;(focus (first|(simp;done)|omega|(simp;omega)))))
    (with_reducible apply e_dec); (simp; exact Red.rfl)
    · intro hlt
      have hlt : i < xs.length := by omega
      have hx := rd_row Lim.av_length hs hlt
      generalize hsi : xs[i] = s at hx
      obtain ⟨a1, a2, a3, a4⟩ := s
      simp only [Lim.av] at hx
      repeat (first|(with_reducible first|apply X1|apply X2|apply X5|apply X6|apply X8)|((with_reducible apply e_end);(simp;exact Red.rfl))|((first|((with_reducible apply O1);rfl)|((with_reducible apply O2);rfl));(simp (disch:=omega) [rd_old _ hid, hx];exact Red.rfl);exact Red.rfl;(focus (first|(simp;done)|omega|(simp;omega)))))
      (with_reducible apply e_call); (simp; exact Red.rfl); exact c_fits _ _ _ _ _
      rintro _ _ ⟨rfl, rfl⟩
      by_cases hok : a1 ≤ a2 ∧ a3 ≤ a1 ∧ a2 ≤ a4
      · repeat (first|(with_reducible first|apply X2|apply X5|apply X8|apply Y2)|((with_reducible apply e_end);(simp;exact Red.rfl))|((with_reducible apply O1);rfl;(simp (disch:=omega) [hok];exact Red.rfl);exact Red.rfl;(focus (first|(simp;done)|omega|(simp;omega))))|((with_reducible apply W3);(simp (disch:=omega) [hok];exact Red.rfl)))
        refine q_again ⟨i + 1, hlt, ?_⟩ ?_ ?_
        · intro j hj hji
          rcases Nat.lt_or_ge j i with h | h
          · exact hi2 j hj h
          · have : j = i := by omega
            subst this; rw [hsi]; exact hok
        · dsimp only; omega
        · exact .inr <| le_drop (by simp; omega)
      · repeat (first|(with_reducible first|apply X1|apply X2|apply X3|apply X8|apply X9|apply Y3|apply Y5)|((with_reducible apply e_end);(simp;exact Red.rfl))|((with_reducible apply O1);rfl;(simp (disch:=omega) [hok];exact Red.rfl);exact Red.rfl;(focus (first|(simp;done)|omega|(simp;omega))))|((with_reducible apply Z9);(simp (disch:=omega) [hok];exact Red.rfl)))
        refine q_drop (.inr rfl) (by simp; exact Red.rfl) (by simp) ⟨?_, rfl⟩
        rw [AV.bool.injEq]
        refine (Bool.eq_false_iff.2 fun h => hok ?_).symm
        have := hb.1 h i hlt
        rw [hsi] at this; exact this
    · intro hge
      repeat (first|(with_reducible first|apply X1|apply X2|apply X3|apply X4|apply X8|apply Y1|apply Y4|apply Y6)|((with_reducible apply e_end);(simp;exact Red.rfl))|((with_reducible apply O1);rfl;(simp (disch:=omega);exact Red.rfl);exact Red.rfl;(focus (first|(simp;done)|omega|(simp;omega)))))
      refine q_drop0 (.inr rfl) (by simp; exact Red.rfl) (by simp) ⟨?_, rfl⟩
      rw [AV.bool.injEq]
      exact (hb.2 fun j hj => hi2 j hj (by omega)).symm

def Sl.lims (s : Sl) : List Lim := [⟨s.s1, s.s2, 0, 200000⟩, ⟨s.r1, s.r2, 0, 100⟩, ⟨s.d1, s.d2, 0, 1000⟩, ⟨s.w1, s.w2, 50000, 800000⟩, ⟨s.t1, s.t2, -500, 500⟩]
theorem c_around (H : Heap) (a : Int) (h : -1000000 ≤ a ∧ a ≤ 1000000) : ACalls Tryz.prog F.span_Around [.int .i64 a] H (fun v h' => v = .agg [.int .i64 (-a), .int .i64 a] ∧ h' = H) := by
  refine acalls_of ok_span_Around rfl fun hcl => ?_
  unfold ac_span_Around
  simp only [argsT, Nat.zero_add, Nat.reduceAdd]
  have hw : IntKind.i64.wrap (0 - a) = -a := by rw [wrap64] <;> omega
  repeat (first|(with_reducible first|apply X1|apply X2|apply X3|apply X8)|((with_reducible apply e_end);(simp;exact Red.rfl))|((first|((with_reducible apply O1);rfl)|((with_reducible apply O2);rfl));(simp (disch:=omega) [hw];exact Red.rfl);exact Red.rfl;(focus (first|(simp;done)|omega|(simp;omega)))))
  refine q_drop (.inr rfl) (by simp; exact Red.rfl) (by simp) ⟨rfl, rfl⟩
theorem c_slimits (H : Heap) (s : Sl) : ACalls Tryz.prog F.slide_limits [.agg s.av] H (fun v h' => v = .slice H.length 0 5 4 true ∧ h' = H ++ [.cells (s.lims.flatMap Lim.av) true]) := by
  obtain ⟨c, a1, a2, a3, a4, a5, a6, a7, a8, a9, a10⟩ := s
  simp only [Sl.av]
  refine acalls_of ok_slide_limits rfl fun hcl => ?_
  unfold ac_slide_limits
  simp only [argsT, Nat.zero_add, Nat.reduceAdd]
  repeat (first|(with_reducible first|apply X1|apply X2|apply X8|apply Y9)|((with_reducible apply e_end);(simp;exact Red.rfl))|((first|((with_reducible apply O1);rfl)|((with_reducible apply P1);rfl)|((with_reducible apply P2);rfl));(simp (disch:=omega);exact Red.rfl);exact Red.rfl;(focus (first|(simp;done)|omega|(simp;omega)))))
  (with_reducible apply d_call); (simp; exact Red.rfl); exact c_upto _ _; (focus (first | (simp; done) | (simp; omega)))
  repeat (first|((with_reducible apply P1);rfl;(simp (disch:=omega);exact Red.rfl);exact Red.rfl;(focus (first|(simp;done)|omega|(simp;omega))))|((with_reducible apply P6);rfl;(simp (disch:=omega);exact Red.rfl);exact Red.rfl;(focus (first|(simp [pr];done)|(simp [pr];omega)))))
  (with_reducible apply d_call); (simp; exact Red.rfl); exact c_upto _ _; (focus (first | (simp; done) | (simp; omega)))
  repeat (first|((with_reducible apply P1);rfl;(simp (disch:=omega);exact Red.rfl);exact Red.rfl;(focus (first|(simp;done)|omega|(simp;omega))))|((with_reducible apply P6);rfl;(simp (disch:=omega);exact Red.rfl);exact Red.rfl;(focus (first|(simp [pr];done)|(simp [pr];omega)))))
  (with_reducible apply d_call); (simp; exact Red.rfl); exact c_upto _ _; (focus (first | (simp; done) | (simp; omega)))
  repeat (first|((with_reducible apply P1);rfl;(simp (disch:=omega);exact Red.rfl);exact Red.rfl;(focus (first|(simp;done)|omega|(simp;omega))))|((with_reducible apply P6);rfl;(simp (disch:=omega);exact Red.rfl);exact Red.rfl;(focus (first|(simp [pr];done)|(simp [pr];omega)))))
  (with_reducible apply d_call); (simp; exact Red.rfl); exact c_around _ _ (by omega); (focus (first | (simp; done) | (simp; omega)))
  repeat (first|(with_reducible first|apply X3|apply X8)|((with_reducible apply d_end);(simp;exact Red.rfl))|((first|((with_reducible apply P1);rfl)|((with_reducible apply P3);rfl));(simp (disch:=omega);exact Red.rfl);exact Red.rfl;(focus (first|(simp;done)|omega|(simp;omega)))))
  exact q_post (v' := .slice H.length 0 5 4 true) (.inr rfl) (by simp; exact Red.rfl) (le_plain [1] _ (by simp) rfl (by
    intro o ho; simp only [List.mem_singleton] at ho; subst ho; exact Plain.o ⟨rfl, fun _ => rfl, fun _ => rfl⟩ _) (by simp [sh, AV.ren])) ⟨rfl, rfl⟩

theorem lims_ok (s : Sl) : (∀ j (hj : j < s.lims.length), s.lims[j].ok) ↔ ((s.s1 ≤ s.s2 ∧ 0 ≤ s.s1 ∧ s.s2 ≤ 200000) ∧ (s.r1 ≤ s.r2 ∧ 0 ≤ s.r1 ∧ s.r2 ≤ 100) ∧ (s.d1 ≤ s.d2 ∧ 0 ≤ s.d1 ∧ s.d2 ≤ 1000) ∧ (s.w1 ≤ s.w2 ∧ 50000 ≤ s.w1 ∧ s.w2 ≤ 800000) ∧ (s.t1 ≤ s.t2 ∧ -500 ≤ s.t1 ∧ s.t2 ≤ 500)) := by
  constructor
  · intro h
    exact ⟨h 0 (by simp [Sl.lims]), h 1 (by simp [Sl.lims]), h 2 (by simp [Sl.lims]), h 3 (by simp [Sl.lims]), h 4 (by simp [Sl.lims])⟩
  · rintro ⟨h0, h1, h2, h3, h4⟩ j hj
    simp only [Sl.lims, List.length_cons, List.length_nil] at hj
    match j, hj with
    | 0, _ => exact h0
    | 1, _ => exact h1
    | 2, _ => exact h2
    | 3, _ => exact h3
    | 4, _ => exact h4

theorem c_sright (H : Heap) (xs : List Sl) (id off : Nat) (ex : Bool) (hs : rd H id off (xs.length * 11) = some (xs.flatMap Sl.av)) (hn : (xs.length : Int) < 1000000) :
    ACalls Tryz.prog F.slide_right [.slice id off xs.length 11 ex] H (fun v h' => h' = H ∧ ∃ k : Nat, v = .int .i64 k ∧ k ≤ xs.length ∧ (k = xs.length ↔ ∀ i (hi : i < xs.length), xs[i].ok)) := by
  refine acalls_of ok_slide_right rfl fun hcl => ?_
  unfold ac_slide_right
  simp only [argsT, Nat.zero_add, Nat.reduceAdd]
  have hid := rd_lt hs
  repeat (first|(with_reducible first|apply X1|apply X2|apply X5|apply X6|apply X7|apply X8)|((with_reducible apply e_end);(simp;exact Red.rfl))|((with_reducible apply O1);rfl;(simp (disch:=omega);exact Red.rfl);exact Red.rfl;(focus (first|(simp;done)|omega|(simp;omega)))))
  refine e_loop (ι := { i : Nat // i ≤ xs.length ∧ ∀ j (hj : j < xs.length), j < i → xs[j].ok })
    (fun i => [(3, .int .i64 i.1), (6, .slice id off xs.length 11 ex), (7, .int .i64 xs.length), (8, .int .i64 i.1)]) (fun _ => H) (fun i => xs.length - i.1) ⟨0, by simp⟩ ?_ ?_
  · exact .inr <| le_id (by simp [hid])
  · rintro ⟨i, hi1, hi2⟩
    dsimp only
    repeat (first|(with_reducible first|apply X1|apply X2|apply X8)|((with_reducible apply e_end);(simp;exact Red.rfl))|((with_reducible apply O1);rfl;(simp (disch:=omega);exact Red.rfl);exact Red.rfl;(focus (first|(simp;done)|omega|(simp;omega)))))
    (with_reducible apply e_dec); (simp; exact Red.rfl)
    · intro hlt
      have hlt : i < xs.length := by omega
      have hx := rd_row Sl.av_length hs hlt
      generalize hsi : xs[i] = s at hx
      obtain ⟨c, a1, a2, a3, a4, a5, a6, a7, a8, a9, a10⟩ := s
      simp only [Sl.av] at hx
      have bad : ¬ xs[i].ok → ∀ k : Nat, k = i → (k = xs.length ↔ ∀ i (hi : i < xs.length), xs[i].ok) := by
        rintro hb k rfl
        exact ⟨fun h => absurd h (by omega), fun h => absurd (h _ hlt) hb⟩
      repeat (first|(with_reducible first|apply X1|apply X2|apply X5|apply X6|apply X8)|((with_reducible apply e_end);(simp;exact Red.rfl))|((first|((with_reducible apply O1);rfl)|((with_reducible apply O2);rfl));(simp (disch:=omega) [rd_old _ hid, hx];exact Red.rfl);exact Red.rfl;(focus (first|(simp;done)|omega|(simp;omega)))))
      refine c_cut (fun t' h' => ∃ (b : Bool) (tl : List (Nat × AV)), (b = true ↔ (c = 1 ∨ c = 2 ∨ c = 3)) ∧ (tl = [] ∨ tl = [(13, .int .u8 c)]) ∧ t' = [(3, .int .i64 i), (5, .ptr H.length 0), (6, .slice id off xs.length 11 ex), (7, .int .i64 xs.length), (8, .int .i64 i)] ++ (tl ++ [(14, .bool b)]) ∧ h' = H ++ [.cells [.int .u8 c, .int .i64 a1, .int .i64 a2, .int .i64 a3, .int .i64 a4, .int .i64 a5, .int .i64 a6, .int .i64 a7, .int .i64 a8, .int .i64 a9, .int .i64 a10] true]) ?_ ?_
      · by_cases h1 : c = 1
        · repeat (first|(with_reducible apply X5)|((with_reducible apply Z9);(simp (disch:=omega) [h1];exact Red.rfl)))
          exact q_cut ⟨true, [(13, .int .u8 c)], by simp [h1], .inr rfl, by simp [h1], by simp [h1]⟩
        · repeat (first|(with_reducible first|apply X1|apply X2|apply X8)|((with_reducible apply e_end);(simp;exact Red.rfl))|((with_reducible apply O1);rfl;(simp (disch:=omega) [h1];exact Red.rfl);exact Red.rfl;(focus (first|(simp;done)|omega|(simp;omega))))|((with_reducible apply W3);(simp (disch:=omega) [h1];exact Red.rfl)))
          by_cases h2 : c = 2
          · repeat (first|(with_reducible apply X5)|((with_reducible apply Z9);(simp (disch:=omega) [h1, h2];exact Red.rfl)))
            exact q_cut ⟨true, [(13, .int .u8 c)], by simp [h2], .inr rfl, by simp [h2], by simp [h2]⟩
          · repeat (first|(with_reducible apply X2)|((with_reducible apply e_end);(simp;exact Red.rfl))|((with_reducible apply O1);rfl;(simp (disch:=omega) [h1, h2];exact Red.rfl);exact Red.rfl;(focus (first|(simp;done)|omega|(simp;omega))))|((with_reducible apply W3);(simp (disch:=omega) [h1, h2];exact Red.rfl)))
            exact q_cut ⟨decide (c = 3), [], by simp [h1, h2], .inl rfl, rfl, rfl⟩
      · rintro _ _ ⟨b, tl, hb, htl, rfl, rfl⟩
        cases b with
        | false =>
          have hno : ¬ xs[i].ok := by
            rw [hsi]; intro h; have := h.1; dsimp only at this
            have : ¬ (c = 1 ∨ c = 2 ∨ c = 3) := fun h => by have := hb.2 h; cases this
            omega
          rcases htl with rfl | rfl <;> simp only [List.cons_append, List.nil_append]
          all_goals
            repeat (first|(with_reducible first|apply X1|apply X2|apply X3|apply X4|apply X8|apply Y1|apply Y4|apply Y6|apply Y8)|((with_reducible apply q_block_other);decide)|((with_reducible apply e_end);(simp;exact Red.rfl))|((with_reducible apply O1);rfl;(simp (disch:=omega);exact Red.rfl);exact Red.rfl;(focus (first|(simp;done)|omega|(simp;omega))))|((with_reducible apply W3);(simp (disch:=omega);exact Red.rfl)))
            refine q_drop (.inr rfl) (by simp; exact Red.rfl) (by simp) ⟨rfl, i, rfl, hi1, bad hno i rfl⟩
        | true =>
          obtain ⟨bv, hbv⟩ := bof (∀ j (hj : j < (Sl.lims ⟨c, a1, a2, a3, a4, a5, a6, a7, a8, a9, a10⟩).length), (Sl.lims ⟨c, a1, a2, a3, a4, a5, a6, a7, a8, a9, a10⟩)[j].ok)
          rcases htl with rfl | rfl <;> simp only [List.cons_append, List.nil_append]
          all_goals
            repeat (first|(with_reducible first|apply X1|apply X2|apply X8)|((with_reducible apply O1);rfl;(simp (disch:=omega);exact Red.rfl);exact Red.rfl;(focus (first|(simp;done)|omega|(simp;omega))))|((with_reducible apply Z9);(simp (disch:=omega);exact Red.rfl)))
            (with_reducible apply e_call); (simp; exact Red.rfl); exact c_slimits _ ⟨c, a1, a2, a3, a4, a5, a6, a7, a8, a9, a10⟩
            rintro _ _ ⟨rfl, rfl⟩
            skip
            (with_reducible apply e_call); (simp; exact Red.rfl); exact c_Valid _ (Sl.lims ⟨c, a1, a2, a3, a4, a5, a6, a7, a8, a9, a10⟩) _ _ _ (by simp [rd_new, Sl.lims, Lim.av]) (by simp [Sl.lims]) hbv
            rintro _ _ ⟨rfl, rfl⟩
            cases bv with
            | false =>
              repeat (first|(with_reducible first|apply X1|apply X2|apply X3|apply X4|apply X8|apply Y1|apply Y4|apply Y6|apply Y8)|((with_reducible apply q_block_other);decide)|((with_reducible apply e_end);(simp;exact Red.rfl))|((with_reducible apply O1);rfl;(simp (disch:=omega);exact Red.rfl);exact Red.rfl;(focus (first|(simp;done)|omega|(simp;omega))))|((with_reducible apply Z9);(simp (disch:=omega);exact Red.rfl)))
              have hno : ¬ xs[i].ok := by
                rw [hsi]; intro h
                have := hbv.2 ((lims_ok _).2 h.2); cases this
              refine q_drop (.inr rfl) (by simp; exact Red.rfl) (by simp) ⟨rfl, i, rfl, hi1, bad hno i rfl⟩
            | true =>
              repeat (first|(with_reducible first|apply X2|apply X5|apply X8|apply Y2)|((with_reducible apply e_end);(simp;exact Red.rfl))|((with_reducible apply O1);rfl;(simp (disch:=omega);exact Red.rfl);exact Red.rfl;(focus (first|(simp;done)|omega|(simp;omega))))|((with_reducible apply W3);(simp (disch:=omega);exact Red.rfl)))
              refine q_again ⟨i + 1, hlt, ?_⟩ ?_ ?_
              · intro j hj hji
                rcases Nat.lt_or_ge j i with h | h
                · exact hi2 j hj h
                · have : j = i := by omega
                  subst this; rw [hsi]
                  have h3 := hb.1 rfl
                  exact ⟨by dsimp only; omega, (lims_ok _).1 (hbv.1 rfl)⟩
              · dsimp only; omega
              · exact .inr <| le_drop (by simp [hid])
    · intro hge
      repeat (first|(with_reducible first|apply X1|apply X2|apply X3|apply X4|apply X8|apply Y1|apply Y4|apply Y6|apply Y8)|((with_reducible apply e_end);(simp;exact Red.rfl))|((with_reducible apply O1);rfl;(simp (disch:=omega);exact Red.rfl);exact Red.rfl;(focus (first|(simp;done)|omega|(simp;omega)))))
      refine q_drop0 (.inr rfl) (by simp; exact Red.rfl) (by simp) ⟨rfl, i, rfl, hi1, fun _ j hj => hi2 j hj (by omega), fun _ => by omega⟩

theorem c_scheckAll (H : Heap) (l : List Str) (id off : Nat) (ex : Bool) (xs : List Sl) (xid xoff : Nat) (xex : Bool) (hs : rd H id off (l.length * 9) = some (l.flatMap Str.av)) (hn : (l.length : Int) < 1000000)
    (hx : rd H xid xoff (xs.length * 11) = some (xs.flatMap Sl.av)) (hxn : (xs.length : Int) < 1000000) :
    ACalls Tryz.prog F.slide_checkAll [.agg [.slice id off l.length 9 ex], .slice xid xoff xs.length 11 xex] H (fun v h' => h' = H ∧ ∃ e : Int, v = .int .i64 e ∧
      ((e = 0 ∧ validL l ∧ xs.length ≤ 6 ∧ ∀ i (hi : i < xs.length), xs[i].ok) ∨ (e = 10 ∧ ¬ validL l) ∨ (e = 4 ∧ validL l ∧ 6 < xs.length) ∨ (e = 30 ∧ validL l ∧ xs.length ≤ 6 ∧ ¬ ∀ i (hi : i < xs.length), xs[i].ok))) := by
  refine acalls_of ok_slide_checkAll rfl fun hcl => ?_
  unfold ac_slide_checkAll
  simp only [argsT, Nat.zero_add, Nat.reduceAdd]
  have hid := rd_lt hs
  have hxd := rd_lt hx
  repeat (first|(with_reducible first|apply X1|apply X2|apply X8)|((with_reducible apply e_end);(simp;exact Red.rfl))|((with_reducible apply O1);rfl;(simp (disch:=omega);exact Red.rfl);exact Red.rfl;(focus (first|(simp;done)|omega|(simp;omega)))))
  (with_reducible apply e_call); (simp; exact Red.rfl); exact c_Check _ l id off ex (by rw [rd_old _ hid]; exact hs) hn
  rintro _ _ ⟨rfl, e, rfl, he⟩
  rcases he with ⟨hv, rfl⟩ | ⟨hv, rfl⟩
  · repeat (first|(with_reducible first|apply X1|apply X2|apply X5|apply X8)|((with_reducible apply e_end);(simp;exact Red.rfl))|((with_reducible apply O1);rfl;(simp (disch:=omega);exact Red.rfl);exact Red.rfl;(focus (first|(simp;done)|omega|(simp;omega))))|((with_reducible apply W3);(simp (disch:=omega);exact Red.rfl)))
    by_cases h6 : 6 < xs.length
    · have h6' : (6 : Int) < xs.length := by omega
      repeat (first|(with_reducible first|apply X1|apply X2|apply X3|apply X8|apply X9)|((with_reducible apply e_end);(simp;exact Red.rfl))|((with_reducible apply O1);rfl;(simp (disch:=omega) [h6, h6'];exact Red.rfl);exact Red.rfl;(focus (first|(simp;done)|omega|(simp;omega))))|((with_reducible apply Z9);(simp (disch:=omega) [h6, h6'];exact Red.rfl)))
      refine q_drop (.inr rfl) (by simp; exact Red.rfl) (by simp) ⟨rfl, 4, rfl, .inr (.inr (.inl ⟨rfl, hv, h6⟩))⟩
    · have h6' : ¬ (6 : Int) < xs.length := by omega
      repeat (first|(with_reducible first|apply X1|apply X2|apply X5|apply X8)|((with_reducible apply O1);rfl;(simp (disch:=omega) [h6, h6'];exact Red.rfl);exact Red.rfl;(focus (first|(simp;done)|omega|(simp;omega))))|((with_reducible apply W3);(simp (disch:=omega) [h6, h6'];exact Red.rfl)))
      (with_reducible apply e_call); (simp; exact Red.rfl); exact c_sright _ xs xid xoff xex (by rw [rd_old _ hxd]; exact hx) hxn
      rintro _ _ ⟨rfl, k, rfl, hk1, hk2⟩
      repeat (first|(with_reducible apply X8)|((with_reducible apply e_end);(simp;exact Red.rfl))|((with_reducible apply O1);rfl;(simp (disch:=omega);exact Red.rfl);exact Red.rfl;(focus (first|(simp;done)|omega|(simp;omega)))))
      (with_reducible apply e_dec); (simp; exact Red.rfl)
      · intro hk
        repeat (first|(with_reducible first|apply X1|apply X2|apply X3|apply X8|apply X9)|((with_reducible apply e_end);(simp;exact Red.rfl))|((with_reducible apply O1);rfl;(simp (disch:=omega);exact Red.rfl);exact Red.rfl;(focus (first|(simp;done)|omega|(simp;omega)))))
        refine q_drop (.inr rfl) (by simp; exact Red.rfl) (by simp) ⟨rfl, 30, rfl, .inr (.inr (.inr ⟨rfl, hv, by omega, fun h => by have := hk2.2 h; omega⟩))⟩
      · intro hk
        repeat (first|(with_reducible first|apply X1|apply X2|apply X3|apply X5|apply X8)|((with_reducible apply e_end);(simp;exact Red.rfl))|((with_reducible apply O1);rfl;(simp (disch:=omega);exact Red.rfl);exact Red.rfl;(focus (first|(simp;done)|omega|(simp;omega)))))
        refine q_drop (.inr rfl) (by simp; exact Red.rfl) (by simp) ⟨rfl, 0, rfl, .inl ⟨rfl, hv, by omega, hk2.1 (by omega)⟩⟩
  · repeat (first|(with_reducible first|apply X1|apply X2|apply X3|apply X8|apply X9)|((with_reducible apply e_end);(simp;exact Red.rfl))|((with_reducible apply O1);rfl;(simp (disch:=omega);exact Red.rfl);exact Red.rfl;(focus (first|(simp;done)|omega|(simp;omega))))|((with_reducible apply Z9);(simp (disch:=omega);exact Red.rfl)))
    refine q_drop (.inr rfl) (by simp; exact Red.rfl) (by simp) ⟨rfl, 10, rfl, .inr (.inl ⟨rfl, hv⟩)⟩

theorem c_r3within (H : Heap) (n lo hi : Int) {b : Bool} (hb : b = true ↔ lo ≤ n ∧ n ≤ hi) : ACalls Tryz.prog F.ref03_within [.int .i64 n, .int .i64 lo, .int .i64 hi] H (fun v h' => v = .bool b ∧ h' = H) := by
  refine acalls_of ok_ref03_within rfl fun hcl => ?_
  unfold ac_ref03_within
  simp only [argsT, Nat.zero_add, Nat.reduceAdd]
  repeat (first|(with_reducible first|apply X1|apply X2|apply X8)|((with_reducible apply e_end);(simp;exact Red.rfl))|((with_reducible apply O1);rfl;(simp (disch:=omega);exact Red.rfl);exact Red.rfl;(focus (first|(simp;done)|omega|(simp;omega)))))
  (with_reducible apply g_yes); (simp; exact Red.rfl)
  · intro h1
    repeat (first|(with_reducible first|apply X3|apply X8)|((with_reducible apply e_end);(simp;exact Red.rfl))|((with_reducible apply O1);rfl;(simp (disch:=omega) [h1];exact Red.rfl);exact Red.rfl;(focus (first|(simp;done)|omega|(simp;omega))))|((with_reducible apply Z7);(simp (disch:=omega) [h1];exact Red.rfl)))
    refine q_drop0 (.inr rfl) (by simp; exact Red.rfl) (by simp) ⟨by rw [AV.bool.injEq, Bool.eq_iff_iff, hb]; simp [h1], rfl⟩
  · intro h1
    repeat (first|(with_reducible first|apply X3|apply X8)|((with_reducible apply e_end);(simp;exact Red.rfl))|((with_reducible apply O1);rfl;(simp (disch:=omega) [h1];exact Red.rfl);exact Red.rfl;(focus (first|(simp;done)|omega|(simp;omega))))|((with_reducible apply Z1);(simp (disch:=omega) [h1];exact Red.rfl)))
    refine q_drop0 (.inr rfl) (by simp; exact Red.rfl) (by simp) ⟨by rw [AV.bool.injEq, Bool.eq_iff_iff, hb]; simp [h1], rfl⟩
theorem c_r3span (H : Heap) (a c lo hi : Int) {b : Bool} (hb : b = true ↔ a ≤ c ∧ lo ≤ a ∧ c ≤ hi) : ACalls Tryz.prog F.ref03_span [.agg [.int .i64 a, .int .i64 c], .int .i64 lo, .int .i64 hi] H (fun v h' => v = .bool b ∧ h' = H) := by
  refine acalls_of ok_ref03_span rfl fun hcl => ?_
  unfold ac_ref03_span
  simp only [argsT, Nat.zero_add, Nat.reduceAdd]
  repeat (first|(with_reducible first|apply X1|apply X2|apply X8)|((with_reducible apply e_end);(simp;exact Red.rfl))|((with_reducible apply O1);rfl;(simp (disch:=omega);exact Red.rfl);exact Red.rfl;(focus (first|(simp;done)|omega|(simp;omega)))))
  obtain ⟨b1, hb1⟩ := bof (lo ≤ a ∧ a ≤ c)
  (with_reducible apply e_call); (simp; exact Red.rfl); exact c_r3within _ _ _ _ hb1
  rintro _ _ ⟨rfl, rfl⟩
  cases b1 with
  | false =>
    repeat (first|(with_reducible first|apply X3|apply X8)|((with_reducible apply e_end);(simp;exact Red.rfl))|((with_reducible apply O1);rfl;(simp (disch:=omega);exact Red.rfl);exact Red.rfl;(focus (first|(simp;done)|omega|(simp;omega))))|((with_reducible apply Z1);(simp (disch:=omega);exact Red.rfl)))
    have hno : ¬ (lo ≤ a ∧ a ≤ c) := fun h => by have := hb1.2 h; cases this
    refine q_drop (.inr rfl) (by simp; exact Red.rfl) (by simp) ⟨by rw [AV.bool.injEq, Bool.eq_iff_iff, hb]; simp; omega, rfl⟩
  | true =>
    have hyes := hb1.1 rfl
    repeat (first|(with_reducible first|apply X3|apply X8)|((with_reducible apply e_end);(simp;exact Red.rfl))|((with_reducible apply O1);rfl;(simp (disch:=omega) [-Bool.decide_and];exact Red.rfl);exact Red.rfl;(focus (first|(simp;done)|omega|(simp;omega))))|((with_reducible apply Z7);(simp (disch:=omega) [-Bool.decide_and];exact Red.rfl)))
    refine q_drop (.inr rfl) (by simp; exact Red.rfl) (by simp) ⟨by rw [AV.bool.injEq, Bool.eq_iff_iff, hb]; simp; omega, rfl⟩

theorem c_rSled (H : Heap) (s : Sl) (hc : 0 ≤ s.c ∧ s.c ≤ 255) : ACalls Tryz.prog F.ref03_Sled [.agg s.av] H (fun v h' => h' = H ∧ ∃ b : Bool, v = .bool b ∧ (b = true ↔ s.ok)) := by
  obtain ⟨c, a1, a2, a3, a4, a5, a6, a7, a8, a9, a10⟩ := s
  simp only [Sl.av, Sl.ok] at hc ⊢
  refine acalls_of ok_ref03_Sled rfl fun hcl => ?_
  unfold ac_ref03_Sled
  simp only [argsT, Nat.zero_add, Nat.reduceAdd]
  repeat (first|(with_reducible first|apply X1|apply X2|apply X8)|((with_reducible apply e_end);(simp;exact Red.rfl))|((with_reducible apply O1);rfl;(simp (disch:=omega);exact Red.rfl);exact Red.rfl;(focus (first|(simp;done)|omega|(simp;omega)))))
  obtain ⟨b0, hb0⟩ := bof (1 ≤ c ∧ c ≤ 3)
  obtain ⟨b1, hb1⟩ := bof (a1 ≤ a2 ∧ 0 ≤ a1 ∧ a2 ≤ 200000)
  obtain ⟨b2, hb2⟩ := bof (a3 ≤ a4 ∧ 0 ≤ a3 ∧ a4 ≤ 100)
  obtain ⟨b3, hb3⟩ := bof (a5 ≤ a6 ∧ 0 ≤ a5 ∧ a6 ≤ 1000)
  obtain ⟨b4, hb4⟩ := bof (a7 ≤ a8 ∧ 50000 ≤ a7 ∧ a8 ≤ 800000)
  obtain ⟨b5, hb5⟩ := bof (a9 ≤ a10 ∧ -500 ≤ a9 ∧ a10 ≤ 500)
  rw [← hb0, ← hb1, ← hb2, ← hb3, ← hb4, ← hb5]
  (with_reducible apply e_call); (simp; exact Red.rfl); exact c_r3within _ _ _ _ hb0
  rintro _ _ ⟨rfl, rfl⟩
  cases b0 with
  | false =>
    repeat (first|(with_reducible first|apply X3|apply X8)|((with_reducible apply e_end);(simp;exact Red.rfl))|((with_reducible apply O1);rfl;(simp (disch:=omega);exact Red.rfl);exact Red.rfl;(focus (first|(simp;done)|omega|(simp;omega))))|((with_reducible apply Z1);(simp (disch:=omega);exact Red.rfl)))
    refine q_drop (.inr rfl) (by simp; exact Red.rfl) (by simp) ⟨rfl, false, rfl, by simp⟩
  | true =>
    repeat (first|((with_reducible apply O1);rfl;(simp (disch:=omega);exact Red.rfl);exact Red.rfl;(focus (first|(simp;done)|omega|(simp;omega))))|((with_reducible apply Z7);(simp (disch:=omega);exact Red.rfl)))
    (with_reducible apply e_call); (simp; exact Red.rfl); exact c_r3span _ _ _ _ _ hb1
    rintro _ _ ⟨rfl, rfl⟩
    cases b1 with
    | false =>
      repeat (first|(with_reducible first|apply X3|apply X8)|((with_reducible apply e_end);(simp;exact Red.rfl))|((with_reducible apply O1);rfl;(simp (disch:=omega);exact Red.rfl);exact Red.rfl;(focus (first|(simp;done)|omega|(simp;omega))))|((with_reducible apply Z1);(simp (disch:=omega);exact Red.rfl)))
      refine q_drop (.inr rfl) (by simp; exact Red.rfl) (by simp) ⟨rfl, false, rfl, by simp⟩
    | true =>
      repeat (first|((with_reducible apply O1);rfl;(simp (disch:=omega);exact Red.rfl);exact Red.rfl;(focus (first|(simp;done)|omega|(simp;omega))))|((with_reducible apply Z7);(simp (disch:=omega);exact Red.rfl)))
      (with_reducible apply e_call); (simp; exact Red.rfl); exact c_r3span _ _ _ _ _ hb2
      rintro _ _ ⟨rfl, rfl⟩
      cases b2 with
      | false =>
        repeat (first|(with_reducible first|apply X3|apply X8)|((with_reducible apply e_end);(simp;exact Red.rfl))|((with_reducible apply O1);rfl;(simp (disch:=omega);exact Red.rfl);exact Red.rfl;(focus (first|(simp;done)|omega|(simp;omega))))|((with_reducible apply Z1);(simp (disch:=omega);exact Red.rfl)))
        refine q_drop (.inr rfl) (by simp; exact Red.rfl) (by simp) ⟨rfl, false, rfl, by simp⟩
      | true =>
        repeat (first|((with_reducible apply O1);rfl;(simp (disch:=omega);exact Red.rfl);exact Red.rfl;(focus (first|(simp;done)|omega|(simp;omega))))|((with_reducible apply Z7);(simp (disch:=omega);exact Red.rfl)))
        (with_reducible apply e_call); (simp; exact Red.rfl); exact c_r3span _ _ _ _ _ hb3
        rintro _ _ ⟨rfl, rfl⟩
        cases b3 with
        | false =>
          repeat (first|(with_reducible first|apply X3|apply X8)|((with_reducible apply e_end);(simp;exact Red.rfl))|((with_reducible apply O1);rfl;(simp (disch:=omega);exact Red.rfl);exact Red.rfl;(focus (first|(simp;done)|omega|(simp;omega))))|((with_reducible apply Z1);(simp (disch:=omega);exact Red.rfl)))
          refine q_drop (.inr rfl) (by simp; exact Red.rfl) (by simp) ⟨rfl, false, rfl, by simp⟩
        | true =>
          repeat (first|((with_reducible apply O1);rfl;(simp (disch:=omega);exact Red.rfl);exact Red.rfl;(focus (first|(simp;done)|omega|(simp;omega))))|((with_reducible apply Z7);(simp (disch:=omega);exact Red.rfl)))
          (with_reducible apply e_call); (simp; exact Red.rfl); exact c_r3span _ _ _ _ _ hb4
          rintro _ _ ⟨rfl, rfl⟩
          cases b4 with
          | false =>
            repeat (first|(with_reducible first|apply X3|apply X8)|((with_reducible apply e_end);(simp;exact Red.rfl))|((with_reducible apply O1);rfl;(simp (disch:=omega);exact Red.rfl);exact Red.rfl;(focus (first|(simp;done)|omega|(simp;omega))))|((with_reducible apply Z1);(simp (disch:=omega);exact Red.rfl)))
            refine q_drop (.inr rfl) (by simp; exact Red.rfl) (by simp) ⟨rfl, false, rfl, by simp⟩
          | true =>
            repeat (first|((with_reducible apply O1);rfl;(simp (disch:=omega);exact Red.rfl);exact Red.rfl;(focus (first|(simp;done)|omega|(simp;omega))))|((with_reducible apply Z7);(simp (disch:=omega);exact Red.rfl)))
            (with_reducible apply e_call); (simp; exact Red.rfl); exact c_r3span _ _ _ _ _ hb5
            rintro _ _ ⟨rfl, rfl⟩
            repeat (first|(with_reducible first|apply X3|apply X8)|((with_reducible apply e_end);(simp;exact Red.rfl))|((with_reducible apply O1);rfl;(simp (disch:=omega);exact Red.rfl);exact Red.rfl;(focus (first|(simp;done)|omega|(simp;omega)))))
            refine q_drop (.inr rfl) (by simp; exact Red.rfl) (by simp) ⟨rfl, b5, rfl, by simp⟩

theorem c_sready (H : Heap) (l : List Str) (id off : Nat) (ex : Bool) (s : Sl) (hs : rd H id off (l.length * 9) = some (l.flatMap Str.av)) (hc : 0 ≤ s.c ∧ s.c ≤ 255) :
    ACalls Tryz.prog F.law03_ready [.agg [.slice id off l.length 9 ex], .agg s.av] H (fun v h' => h' = H ∧ ∃ b : Bool, v = .bool b ∧ (b = true ↔ validL l ∧ s.ok)) := by
  refine acalls_of ok_law03_ready rfl fun hcl => ?_
  unfold ac_law03_ready
  simp only [argsT, Nat.zero_add, Nat.reduceAdd]
  have hid := rd_lt hs
  repeat (first|(with_reducible first|apply X1|apply X2|apply X8)|((with_reducible apply e_end);(simp;exact Red.rfl))|((with_reducible apply O1);rfl;(simp (disch:=omega) [Sl.av];exact Red.rfl);exact Red.rfl;(focus (first|(simp;done)|omega|(simp;omega)))))
  (with_reducible apply e_call); (simp; exact Red.rfl); exact c_great _ _ _ _ _ (by simp; omega)
  rintro _ _ ⟨rfl, rfl⟩
  by_cases h20 : 20 < l.length
  · repeat (first|(with_reducible first|apply X3|apply X8)|((with_reducible apply e_end);(simp;exact Red.rfl))|((with_reducible apply O1);rfl;(simp (disch:=omega) [h20];exact Red.rfl);exact Red.rfl;(focus (first|(simp;done)|omega|(simp;omega))))|((with_reducible apply Z1);(simp (disch:=omega) [h20];exact Red.rfl)))
    refine q_drop (.inr rfl) (by simp; exact Red.rfl) (by simp) ⟨rfl, false, rfl, by simp [validL]; omega⟩
  · repeat (first|((with_reducible apply O1);rfl;(simp (disch:=omega) [h20];exact Red.rfl);exact Red.rfl;(focus (first|(simp;done)|omega|(simp;omega))))|((with_reducible apply Z7);(simp (disch:=omega) [h20];exact Red.rfl)))
    (with_reducible apply e_call); (simp; exact Red.rfl); exact c_rTrack _ l id off ex (by rw [rd_old _ hid]; exact hs) (by omega)
    rintro _ _ ⟨rfl, b, rfl, hb⟩
    cases b with
    | false =>
      repeat (first|(with_reducible first|apply X3|apply X8)|((with_reducible apply e_end);(simp;exact Red.rfl))|((with_reducible apply O1);rfl;(simp (disch:=omega) [h20];exact Red.rfl);exact Red.rfl;(focus (first|(simp;done)|omega|(simp;omega))))|((with_reducible apply Z1);(simp (disch:=omega) [h20];exact Red.rfl)))
      refine q_drop (.inr rfl) (by simp; exact Red.rfl) (by simp) ⟨rfl, false, rfl, by rw [← hb]; simp⟩
    | true =>
      repeat (first|((with_reducible apply O1);rfl;(simp (disch:=omega) [h20, Sl.av];exact Red.rfl);exact Red.rfl;(focus (first|(simp;done)|omega|(simp;omega))))|((with_reducible apply Z7);(simp (disch:=omega) [h20, Sl.av];exact Red.rfl)))
      (with_reducible apply e_call); (simp; exact Red.rfl); exact c_rSled _ s hc
      rintro _ _ ⟨rfl, b, rfl, hb2⟩
      repeat (first|(with_reducible first|apply X3|apply X8)|((with_reducible apply e_end);(simp;exact Red.rfl))|((with_reducible apply O1);rfl;(simp (disch:=omega);exact Red.rfl);exact Red.rfl;(focus (first|(simp;done)|omega|(simp;omega)))))
      refine q_drop (.inr rfl) (by simp; exact Red.rfl) (by simp) ⟨rfl, b, rfl, by rw [← hb, hb2]; simp⟩
def moF (t : Bool) : FuncId := if t = true then F.span_High else F.span_Low
def leF (t : Bool) : FuncId := if t = true then F.span_Low else F.span_High
def trv (t : Bool) (s : Sl) (sl : AV) : List AV := s.av ++ [sl, .fn (.func (moF t)) [] [], .fn (.func (leF t)) [] []]

theorem c_High (H : Heap) (a b : Int) : ACalls Tryz.prog F.span_High [.agg [.int .i64 a, .int .i64 b]] H (fun v h' => v = .int .i64 b ∧ h' = H) := by
  refine acalls_of ok_span_High rfl fun hcl => ?_
  unfold ac_span_High
  simp only [argsT, Nat.zero_add, Nat.reduceAdd]
  repeat (first|(with_reducible first|apply X1|apply X2|apply X3|apply X8)|((with_reducible apply e_end);(simp;exact Red.rfl))|((with_reducible apply O1);rfl;(simp (disch:=omega);exact Red.rfl);exact Red.rfl;(focus (first|(simp;done)|omega|(simp;omega)))))
  refine q_drop (.inr rfl) (by simp; exact Red.rfl) (by simp) ⟨rfl, rfl⟩
theorem c_Low (H : Heap) (a b : Int) : ACalls Tryz.prog F.span_Low [.agg [.int .i64 a, .int .i64 b]] H (fun v h' => v = .int .i64 a ∧ h' = H) := by
  refine acalls_of ok_span_Low rfl fun hcl => ?_
  unfold ac_span_Low
  simp only [argsT, Nat.zero_add, Nat.reduceAdd]
  repeat (first|(with_reducible first|apply X1|apply X2|apply X3|apply X8)|((with_reducible apply e_end);(simp;exact Red.rfl))|((with_reducible apply O1);rfl;(simp (disch:=omega);exact Red.rfl);exact Red.rfl;(focus (first|(simp;done)|omega|(simp;omega)))))
  refine q_drop (.inr rfl) (by simp; exact Red.rfl) (by simp) ⟨rfl, rfl⟩
theorem c_mo (t : Bool) (H : Heap) (a b : Int) : ACalls Tryz.prog (moF t) [.agg [.int .i64 a, .int .i64 b]] H (fun v h' => v = .int .i64 (up t a b) ∧ h' = H) := by
  cases t
  · exact c_Low H a b
  · exact c_High H a b
theorem c_le (t : Bool) (H : Heap) (a b : Int) : ACalls Tryz.prog (leF t) [.agg [.int .i64 a, .int .i64 b]] H (fun v h' => v = .int .i64 (dn t a b) ∧ h' = H) := by
  cases t
  · exact c_High H a b
  · exact c_Low H a b

theorem c_long (t : Bool) (H : Heap) (s : Sl) (l : List Str) (id off : Nat) (ex : Bool) (hs : rd H id off (l.length * 9) = some (l.flatMap Str.av)) (i : Nat) (hi : i < l.length) :
    ACalls Tryz.prog F.slide_truth_long [.agg (trv t s (.slice id off l.length 9 ex)), .int .i64 i] H (fun v h' => v = .int .i64 (dn t (strAt l i).lLo (strAt l i).lHi) ∧ h' = H) := by
  obtain ⟨c, a1, a2, a3, a4, a5, a6, a7, a8, a9, a10⟩ := s
  simp only [trv, Sl.av, List.cons_append, List.nil_append]
  refine acalls_of ok_slide_truth_long rfl fun hcl => ?_
  unfold ac_slide_truth_long
  simp only [argsT, Nat.zero_add, Nat.reduceAdd]
  have hid := rd_lt hs
  have hx := rd_row Str.av_length hs hi
  have hst := strAt_eq hi
  generalize hsi : l[i] = s at hx hst
  obtain ⟨b1, b2, b3, b4, b5, b6, b7, b8, b9⟩ := s
  simp only [Str.av] at hx
  have hx2 : rd H id (off + i * 9 + 1) 2 = some [.int .i64 b2, .int .i64 b3] := by simpa using rd_sub hx (show 1 + 2 ≤ 9 by omega)
  have hi2 : (i : Int) < l.length := by omega
  rw [hst]
  repeat (first|(with_reducible first|apply X1|apply X2|apply X8|apply Y9)|((with_reducible apply e_end);(simp;exact Red.rfl))|((first|((with_reducible apply O1);rfl)|((with_reducible apply P1);rfl)|((with_reducible apply P2);rfl));(simp (disch:=omega) [rd_old _ hid, hx2, hi2, hi];exact Red.rfl);exact Red.rfl;(focus (first|(simp;done)|omega|(simp;omega)))))
  (with_reducible apply d_callV); (simp; exact Red.rfl); (simp; exact Red.rfl); exact c_le t _ _ _; (focus (first | (simp; done) | (simp; omega)))
  repeat (first|(with_reducible first|apply X3|apply X8)|((with_reducible apply d_end);(simp;exact Red.rfl))|((with_reducible apply P1);rfl;(simp (disch:=omega);exact Red.rfl);exact Red.rfl;(focus (first|(simp;done)|omega|(simp;omega)))))
  refine q_drop (.inr rfl) (by simp; exact Red.rfl) (by simp) ⟨rfl, rfl⟩

theorem c_fall (t : Bool) (H : Heap) (s : Sl) (l : List Str) (id off : Nat) (ex : Bool) (hs : rd H id off (l.length * 9) = some (l.flatMap Str.av)) (i : Nat) (hi : i < l.length) :
    ACalls Tryz.prog F.slide_truth_fall [.agg (trv t s (.slice id off l.length 9 ex)), .int .i64 i] H (fun v h' => v = .int .i64 (up t (strAt l i).fLo (strAt l i).fHi) ∧ h' = H) := by
  obtain ⟨c, a1, a2, a3, a4, a5, a6, a7, a8, a9, a10⟩ := s
  simp only [trv, Sl.av, List.cons_append, List.nil_append]
  refine acalls_of ok_slide_truth_fall rfl fun hcl => ?_
  unfold ac_slide_truth_fall
  simp only [argsT, Nat.zero_add, Nat.reduceAdd]
  have hid := rd_lt hs
  have hx := rd_row Str.av_length hs hi
  have hst := strAt_eq hi
  generalize hsi : l[i] = s at hx hst
  obtain ⟨b1, b2, b3, b4, b5, b6, b7, b8, b9⟩ := s
  simp only [Str.av] at hx
  have hx2 : rd H id (off + i * 9 + 3) 2 = some [.int .i64 b4, .int .i64 b5] := by simpa using rd_sub hx (show 3 + 2 ≤ 9 by omega)
  have hi2 : (i : Int) < l.length := by omega
  rw [hst]
  repeat (first|(with_reducible first|apply X1|apply X2|apply X8|apply Y9)|((with_reducible apply e_end);(simp;exact Red.rfl))|((first|((with_reducible apply O1);rfl)|((with_reducible apply P1);rfl)|((with_reducible apply P2);rfl));(simp (disch:=omega) [rd_old _ hid, hx2, hi2, hi];exact Red.rfl);exact Red.rfl;(focus (first|(simp;done)|omega|(simp;omega)))))
  (with_reducible apply d_callV); (simp; exact Red.rfl); (simp; exact Red.rfl); exact c_mo t _ _ _; (focus (first | (simp; done) | (simp; omega)))
  repeat (first|(with_reducible first|apply X3|apply X8)|((with_reducible apply d_end);(simp;exact Red.rfl))|((with_reducible apply P1);rfl;(simp (disch:=omega);exact Red.rfl);exact Red.rfl;(focus (first|(simp;done)|omega|(simp;omega)))))
  refine q_drop (.inr rfl) (by simp; exact Red.rfl) (by simp) ⟨rfl, rfl⟩

theorem c_forces1 (t : Bool) (H : Heap) (s : Sl) (sl : AV) (i : Int) :
    ACalls Tryz.prog F.slide_forces_1 [.agg (trv t s sl), .int .i64 i] H (fun v h' => v = .int .i64 0 ∧ h' = H) := by
  obtain ⟨c, a1, a2, a3, a4, a5, a6, a7, a8, a9, a10⟩ := s
  simp only [trv, Sl.av, List.cons_append, List.nil_append]
  refine acalls_of ok_slide_forces_1 rfl fun hcl => ?_
  unfold ac_slide_forces_1
  simp only [argsT, Nat.zero_add, Nat.reduceAdd]
  repeat (first|(with_reducible first|apply X1|apply X2|apply X3|apply X8)|((with_reducible apply e_end);(simp;exact Red.rfl))|((with_reducible apply O1);rfl;(simp (disch:=omega);exact Red.rfl);exact Red.rfl;(focus (first|(simp;done)|omega|(simp;omega)))))
  refine q_drop (.inr rfl) (by simp; exact Red.rfl) (by simp) ⟨rfl, rfl⟩

theorem c_ice (t : Bool) (H : Heap) (s : Sl) (l : List Str) (id off : Nat) (ex : Bool) (hs : rd H id off (l.length * 9) = some (l.flatMap Str.av)) (hv : validL l) (hk : s.ok) (i : Nat) (hi : i < l.length) (x : Int) :
    ACalls Tryz.prog F.slide_truth_ice [.agg (trv t s (.slice id off l.length 9 ex)), .int .i64 i, .int .i64 x] H (fun v h' => v = .int .i64 (dn t s.r1 s.r2 * dn t (strAt l i).lLo (strAt l i).lHi / 100) ∧ h' = H) := by
  have hL := dn_in t (str_ok hv hi).2.2.1.1
  have hL2 := (str_ok hv hi).2.2.1
  have hR := dn_in t hk.2.2.1.1
  have hR2 := hk.2.2.1
  generalize hLg : dn t (strAt l i).lLo (strAt l i).lHi = L at hL ⊢
  obtain ⟨c, a1, a2, a3, a4, a5, a6, a7, a8, a9, a10⟩ := s
  dsimp only at hR hR2 ⊢
  generalize hRg : dn t a3 a4 = r at hR ⊢
  have p0 : 0 ≤ r * L := Int.mul_nonneg (by omega) (by omega)
  have p1 : r * L ≤ 100 * 30000 := Int.mul_le_mul (by omega) (by omega) (by omega) (by omega)
  have hq : (r * L).tdiv 100 = r * L / 100 := Int.tdiv_eq_ediv_of_nonneg p0
  have hcl0 := c_long t
  have hid := rd_lt hs
  simp only [trv, Sl.av, List.cons_append, List.nil_append]
  refine acalls_of ok_slide_truth_ice rfl fun hcl => ?_
  unfold ac_slide_truth_ice
  simp only [argsT, Nat.zero_add, Nat.reduceAdd]
  repeat (first|(with_reducible first|apply X1|apply X2|apply X8|apply Y9)|((with_reducible apply e_end);(simp;exact Red.rfl))|((first|((with_reducible apply O1);rfl)|((with_reducible apply P1);rfl)|((with_reducible apply P2);rfl));(simp (disch:=omega);exact Red.rfl);exact Red.rfl;(focus (first|(simp;done)|omega|(simp;omega)))))
  (with_reducible apply d_callV); (simp; exact Red.rfl); (simp; exact Red.rfl); exact c_le t _ _ _; (focus (first | (simp; done) | (simp; omega)))
  repeat (first|((with_reducible apply P1);rfl;(simp (disch:=omega);exact Red.rfl);exact Red.rfl;(focus (first|(simp;done)|omega|(simp;omega))))|((with_reducible apply P6);rfl;(simp (disch:=omega);exact Red.rfl);exact Red.rfl;(focus (first|(simp [pr];done)|(simp [pr];omega)))))
  rw [hRg]
  (with_reducible apply d_call); (simp; exact Red.rfl); exact c_long t _ ⟨c, a1, a2, a3, a4, a5, a6, a7, a8, a9, a10⟩ l id off ex (by rw [rd_old _ hid]; exact hs) i hi; (focus (first | (simp; done) | (simp; omega)))
  rw [hLg]
  repeat (first|(with_reducible first|apply X3|apply X8)|((with_reducible apply d_end);(simp;exact Red.rfl))|((with_reducible apply P1);rfl;(simp (disch:=omega) [hq];exact Red.rfl);exact Red.rfl;(focus (first|(simp;done)|omega|(simp;omega)))))
  refine q_drop (.inr rfl) (by simp; exact Red.rfl) (by simp) ⟨rfl, rfl⟩

theorem c_air (t : Bool) (H : Heap) (s : Sl) (l : List Str) (id off : Nat) (ex : Bool) (hs : rd H id off (l.length * 9) = some (l.flatMap Str.av)) (hv : validL l) (hk : s.ok) (i : Nat) (hi : i < l.length) (x : Int) (hx : 0 ≤ x ∧ x ≤ 300000) :
    ACalls Tryz.prog F.slide_truth_air [.agg (trv t s (.slice id off l.length 9 ex)), .int .i64 i, .int .i64 x] H (fun v h' => v = .int .i64 (x * (dn t s.d1 s.d2 * dn t (strAt l i).lLo (strAt l i).lHi) / (100 * up t s.w1 s.w2)) ∧ h' = H) := by
  have hL := dn_in t (str_ok hv hi).2.2.1.1
  have hL2 := (str_ok hv hi).2.2.1
  have hR := dn_in t hk.2.2.2.1.1
  have hR2 := hk.2.2.2.1
  have hW := up_in t hk.2.2.2.2.1.1
  have hW2 := hk.2.2.2.2.1
  generalize hLg : dn t (strAt l i).lLo (strAt l i).lHi = L at hL ⊢
  obtain ⟨c, a1, a2, a3, a4, a5, a6, a7, a8, a9, a10⟩ := s
  dsimp only at hR hR2 hW hW2 ⊢
  generalize hRg : dn t a5 a6 = r at hR ⊢
  generalize hWg : up t a7 a8 = w at hW ⊢
  have p0 : 0 ≤ x * r := Int.mul_nonneg (by omega) (by omega)
  have p1 : x * r ≤ 300000 * 1000 := Int.mul_le_mul (by omega) (by omega) (by omega) (by omega)
  have p2 : 0 ≤ x * r * L := Int.mul_nonneg p0 (by omega)
  have p3 : x * r * L ≤ 300000 * 1000 * 30000 := Int.mul_le_mul p1 (by omega) (by omega) (by omega)
  have hq : (x * r * L).tdiv (100 * w) = x * r * L / (100 * w) := Int.tdiv_eq_ediv_of_nonneg p2
  have hq0 : 0 ≤ x * r * L / (100 * w) := Int.ediv_nonneg p2 (by omega)
  have hq1 : x * r * L / (100 * w) ≤ x * r * L := Int.ediv_le_self _ p2
  have hid := rd_lt hs
  rw [← Int.mul_assoc]
  simp only [trv, Sl.av, List.cons_append, List.nil_append]
  refine acalls_of ok_slide_truth_air rfl fun hcl => ?_
  unfold ac_slide_truth_air
  simp only [argsT, Nat.zero_add, Nat.reduceAdd]
  repeat (first|(with_reducible first|apply X1|apply X2|apply X8|apply Y9)|((with_reducible apply e_end);(simp;exact Red.rfl))|((first|((with_reducible apply O1);rfl)|((with_reducible apply P1);rfl)|((with_reducible apply P2);rfl));(simp (disch:=omega);exact Red.rfl);exact Red.rfl;(focus (first|(simp;done)|omega|(simp;omega)))))
  (with_reducible apply d_callV); (simp; exact Red.rfl); (simp; exact Red.rfl); exact c_le t _ _ _; (focus (first | (simp; done) | (simp; omega)))
  repeat (first|((with_reducible apply P1);rfl;(simp (disch:=omega);exact Red.rfl);exact Red.rfl;(focus (first|(simp;done)|omega|(simp;omega))))|((with_reducible apply P6);rfl;(simp (disch:=omega);exact Red.rfl);exact Red.rfl;(focus (first|(simp [pr];done)|(simp [pr];omega)))))
  rw [hRg]
  skip
  (with_reducible apply d_call); (simp; exact Red.rfl); exact c_long t _ ⟨c, a1, a2, a3, a4, a5, a6, a7, a8, a9, a10⟩ l id off ex (by rw [rd_old _ hid]; exact hs) i hi; (focus (first | (simp; done) | (simp; omega)))
  rw [hLg]
  repeat (first|((with_reducible apply P1);rfl;(simp (disch:=omega);exact Red.rfl);exact Red.rfl;(focus (first|(simp;done)|omega|(simp;omega))))|((with_reducible apply P6);rfl;(simp (disch:=omega);exact Red.rfl);exact Red.rfl;(focus (first|(simp [pr];done)|(simp [pr];omega)))))
  (with_reducible apply d_callV); (simp; exact Red.rfl); (simp; exact Red.rfl); exact c_mo t _ _ _; (focus (first | (simp; done) | (simp; omega)))
  rw [hWg]
  repeat (first|(with_reducible first|apply X3|apply X8)|((with_reducible apply d_end);(simp;exact Red.rfl))|((with_reducible apply P1);rfl;(simp (disch:=omega) [hq];exact Red.rfl);exact Red.rfl;(focus (first|(simp;done)|omega|(simp;omega)))))
  refine q_drop (.inr rfl) (by simp; exact Red.rfl) (by simp) ⟨rfl, rfl⟩

theorem c_forces (H : Heap) : ACalls Tryz.prog F.slide_forces [] H (fun v h' => v = .agg [.fn (.func F.slide_forces_1) [] [], .fn (.func F.slide_truth_air) [] [], .fn (.func F.slide_truth_fall) [] [], .fn (.func F.slide_truth_ice) [] []] ∧ h' = H) := by
  refine acalls_of ok_slide_forces rfl fun hcl => ?_
  unfold ac_slide_forces
  simp only [argsT, Nat.zero_add, Nat.reduceAdd]
  repeat (first|(with_reducible first|apply X1|apply X2|apply X3|apply X8)|((with_reducible apply e_end);(simp;exact Red.rfl))|((first|((with_reducible apply O1);rfl)|((with_reducible apply O2);rfl));(simp (disch:=omega);exact Red.rfl);exact Red.rfl;(focus (first|(simp;done)|omega|(simp;omega)))))
  refine q_drop (.inr rfl) (by simp; exact Red.rfl) (by simp) ⟨rfl, rfl⟩

theorem c_next (t : Bool) (H : Heap) (s : Sl) (l : List Str) (id off : Nat) (ex : Bool) (hs : rd H id off (l.length * 9) = some (l.flatMap Str.av)) (hv : validL l) (hk : s.ok) (i : Nat) (hi : i < l.length) (x : Int) (hx : 0 ≤ x ∧ x ≤ 260000) :
    ACalls Tryz.prog F.slide_truth_next [.agg (trv t s (.slice id off l.length 9 ex)), .int .i64 i, .int .i64 x] H
      (fun v h' => v = .int .i64 (nx x (dn t s.d1 s.d2) (dn t (strAt l i).lLo (strAt l i).lHi) (up t (strAt l i).fLo (strAt l i).fHi) (dn t s.r1 s.r2) (up t s.w1 s.w2)) ∧ h' = H) := by
  have ea := fun H' (hs' : rd H' id off (l.length * 9) = some (l.flatMap Str.av)) => c_air t H' s l id off ex hs' hv hk i hi x (by omega)
  have ei := fun H' (hs' : rd H' id off (l.length * 9) = some (l.flatMap Str.av)) => c_ice t H' s l id off ex hs' hv hk i hi
  have ef := fun H' (hs' : rd H' id off (l.length * 9) = some (l.flatMap Str.av)) => c_fall t H' s l id off ex hs' i hi
  have hF := up_in t (str_ok hv hi).2.2.2.1.1
  have hF2 := (str_ok hv hi).2.2.2.1
  have hL := dn_in t (str_ok hv hi).2.2.1.1
  have hL2 := (str_ok hv hi).2.2.1
  have hR := dn_in t hk.2.2.1.1
  have hR2 := hk.2.2.1
  have hD := dn_in t hk.2.2.2.1.1
  have hD2 := hk.2.2.2.1
  have hW := up_in t hk.2.2.2.2.1.1
  have hW2 := hk.2.2.2.2.1
  unfold nx
  have q0 : 0 ≤ x * (dn t s.d1 s.d2 * dn t (strAt l i).lLo (strAt l i).lHi) / (100 * up t s.w1 s.w2) := Int.ediv_nonneg (Int.mul_nonneg hx.1 (Int.mul_nonneg (by omega) (by omega))) (by omega)
  have q1 : 0 ≤ dn t s.r1 s.r2 * dn t (strAt l i).lLo (strAt l i).lHi / 100 := Int.ediv_nonneg (Int.mul_nonneg (by omega) (by omega)) (by omega)
  have q2 : x * (dn t s.d1 s.d2 * dn t (strAt l i).lLo (strAt l i).lHi) / (100 * up t s.w1 s.w2) ≤ 260000 * (1000 * 30000) :=
    Int.le_trans (Int.ediv_le_self _ (Int.mul_nonneg hx.1 (Int.mul_nonneg (by omega) (by omega)))) (Int.mul_le_mul hx.2 (Int.mul_le_mul (by omega) (by omega) (by omega) (by omega)) (Int.mul_nonneg (by omega) (by omega)) (by omega))
  have q3 : dn t s.r1 s.r2 * dn t (strAt l i).lLo (strAt l i).lHi / 100 ≤ 100 * 30000 :=
    Int.le_trans (Int.ediv_le_self _ (Int.mul_nonneg (by omega) (by omega))) (Int.mul_le_mul (by omega) (by omega) (by omega) (by omega))
  generalize x * (dn t s.d1 s.d2 * dn t (strAt l i).lLo (strAt l i).lHi) / (100 * up t s.w1 s.w2) = qa at ea q0 q2 ⊢
  generalize dn t s.r1 s.r2 * dn t (strAt l i).lLo (strAt l i).lHi / 100 = qi at ei q1 q3 ⊢
  generalize up t (strAt l i).fLo (strAt l i).fHi = fa at ef hF ⊢
  have e1 := fun H' (sl : AV) => c_forces1 t H' s sl
  obtain ⟨c, a1, a2, a3, a4, a5, a6, a7, a8, a9, a10⟩ := s
  simp only [trv, Sl.av, List.cons_append, List.nil_append] at ea ei ef e1 ⊢
  refine acalls_of ok_slide_truth_next rfl fun hcl => ?_
  unfold ac_slide_truth_next
  simp only [argsT, Nat.zero_add, Nat.reduceAdd]
  have hid := rd_lt hs
  repeat (first|(with_reducible first|apply X1|apply X2|apply X8)|((with_reducible apply e_end);(simp;exact Red.rfl))|((with_reducible apply O1);rfl;(simp (disch:=omega);exact Red.rfl);exact Red.rfl;(focus (first|(simp;done)|omega|(simp;omega)))))
  (with_reducible apply e_call); (simp; exact Red.rfl); exact c_forces _
  rintro _ _ ⟨rfl, rfl⟩
  repeat (first|(with_reducible first|apply X6|apply X8)|((with_reducible apply e_end);(simp;exact Red.rfl))|((with_reducible apply O1);rfl;(simp (disch:=omega);exact Red.rfl);exact Red.rfl;(focus (first|(simp;done)|omega|(simp;omega)))))
  refine e_loop (ι := { k : Nat // k ≤ 2 })
    (fun k => [(1, .int .i64 i), (2, .int .i64 (if k.1 = 0 then x else if k.1 = 1 then max 0 (x - qa) else max 0 (max 0 (x - qa) + fa - qi))), (3, .ptr H.length 0),
      (9, .agg [.fn (.func F.slide_forces_1) [] [], .fn (.func F.slide_truth_air) [] [], .fn (.func F.slide_truth_fall) [] [], .fn (.func F.slide_truth_ice) [] []]), (10, .int .i64 k.1)])
    (fun _ => H ++ [.cells [.int .u8 c, .int .i64 a1, .int .i64 a2, .int .i64 a3, .int .i64 a4, .int .i64 a5, .int .i64 a6, .int .i64 a7, .int .i64 a8, .int .i64 a9, .int .i64 a10, .slice id off l.length 9 ex, .fn (.func (moF t)) [] [], .fn (.func (leF t)) [] []] true])
    (fun k => 2 - k.1) ⟨0, by omega⟩ ?_ ?_
  · exact .inl rfl
  · rintro ⟨k, hk2⟩
    dsimp only
    match k, hk2 with
    | 0, _ =>
      repeat (first|(with_reducible first|apply X1|apply X2|apply X5|apply X6|apply X8|apply Y9)|((with_reducible apply e_end);(simp;exact Red.rfl))|((first|((with_reducible apply O1);rfl)|((with_reducible apply O2);rfl)|((with_reducible apply P1);rfl)|((with_reducible apply P2);rfl));(simp (disch:=omega);exact Red.rfl);exact Red.rfl;(focus (first|(simp;done)|omega|(simp;omega))))|((with_reducible apply Z9);(simp (disch:=omega);exact Red.rfl)))
      (with_reducible apply d_callV); (simp; exact Red.rfl); (simp; exact Red.rfl); exact e1 _ _ _; (focus (first | (simp; done) | (simp; omega)))
      repeat (first|((with_reducible apply P1);rfl;(simp (disch:=omega);exact Red.rfl);exact Red.rfl;(focus (first|(simp;done)|omega|(simp;omega))))|((with_reducible apply P6);rfl;(simp (disch:=omega);exact Red.rfl);exact Red.rfl;(focus (first|(simp [pr];done)|(simp [pr];omega)))))
      (with_reducible apply d_callV); (simp; exact Red.rfl); (simp; exact Red.rfl); exact ea _ (by rw [rd_old _ hid]; exact hs); (focus (first | (simp; done) | (simp; omega)))
      repeat (first|(with_reducible first|apply X2|apply X8|apply Y2)|((with_reducible first|apply e_end|apply d_end);(simp;exact Red.rfl))|((first|((with_reducible apply O1);rfl)|((with_reducible apply P1);rfl));(simp (disch:=omega);exact Red.rfl);exact Red.rfl;(focus (first|(simp;done)|omega|(simp;omega)))))
      refine q_again ⟨1, by omega⟩ (by dsimp only; omega) ?_
      rw [show (if qa < x then x - qa else 0) = max 0 (x - qa) by omega]
      exact .inr <| le_take (G2 := [_]) (G := [.cells [.int .u8 c, .int .i64 a1, .int .i64 a2, .int .i64 a3, .int .i64 a4, .int .i64 a5, .int .i64 a6, .int .i64 a7, .int .i64 a8, .int .i64 a9, .int .i64 a10, .slice id off l.length 9 ex, .fn (.func (moF t)) [] [], .fn (.func (leF t)) [] []] true]) (by simp; omega) (by simp; exact ⟨Red.rfl, Red.rfl, Red.rfl, Red.rfl, Red.rfl⟩)
    | 1, _ =>
      repeat (first|(with_reducible first|apply X1|apply X2|apply X5|apply X6|apply X8|apply Y9)|((with_reducible apply e_end);(simp;exact Red.rfl))|((first|((with_reducible apply O1);rfl)|((with_reducible apply O2);rfl)|((with_reducible apply P1);rfl)|((with_reducible apply P2);rfl));(simp (disch:=omega);exact Red.rfl);exact Red.rfl;(focus (first|(simp;done)|omega|(simp;omega))))|((with_reducible apply Z9);(simp (disch:=omega);exact Red.rfl)))
      (with_reducible apply d_callV); (simp; exact Red.rfl); (simp; exact Red.rfl); exact ef _ (by rw [rd_old _ hid]; exact hs); (focus (first | (simp; done) | (simp; omega)))
      repeat (first|((with_reducible apply P1);rfl;(simp (disch:=omega);exact Red.rfl);exact Red.rfl;(focus (first|(simp;done)|omega|(simp;omega))))|((with_reducible apply P6);rfl;(simp (disch:=omega);exact Red.rfl);exact Red.rfl;(focus (first|(simp [pr];done)|(simp [pr];omega)))))
      (with_reducible apply d_callV); (simp; exact Red.rfl); (simp; exact Red.rfl); exact ei _ (by rw [rd_old _ hid]; exact hs) _; (focus (first | (simp; done) | (simp; omega)))
      repeat (first|(with_reducible first|apply X2|apply X8|apply Y2)|((with_reducible first|apply e_end|apply d_end);(simp;exact Red.rfl))|((first|((with_reducible apply O1);rfl)|((with_reducible apply P1);rfl));(simp (disch:=omega);exact Red.rfl);exact Red.rfl;(focus (first|(simp;done)|omega|(simp;omega)))))
      refine q_again ⟨2, by omega⟩ (by dsimp only; omega) ?_
      rw [show (if qi < max 0 (x - qa) + fa then max 0 (x - qa) + fa - qi else 0) = max 0 (max 0 (x - qa) + fa - qi) by omega]
      exact .inr <| le_take (G2 := [_]) (G := [.cells [.int .u8 c, .int .i64 a1, .int .i64 a2, .int .i64 a3, .int .i64 a4, .int .i64 a5, .int .i64 a6, .int .i64 a7, .int .i64 a8, .int .i64 a9, .int .i64 a10, .slice id off l.length 9 ex, .fn (.func (moF t)) [] [], .fn (.func (leF t)) [] []] true]) (by simp; omega) (by simp; exact ⟨Red.rfl, Red.rfl, Red.rfl, Red.rfl, Red.rfl⟩)
    | 2, _ =>
      repeat (first|(with_reducible first|apply X1|apply X2|apply X3|apply X4|apply X8|apply Y1|apply Y4|apply Y6)|((with_reducible apply e_end);(simp;exact Red.rfl))|((with_reducible apply O1);rfl;(simp (disch:=omega);exact Red.rfl);exact Red.rfl;(focus (first|(simp;done)|omega|(simp;omega))))|((with_reducible apply W3);(simp (disch:=omega);exact Red.rfl)))
      refine q_drop (.inr rfl) (by simp; exact Red.rfl) (by simp) ⟨rfl, rfl⟩
theorem c_fastest (H : Heap) (s : Sl) (id off n : Nat) (ex : Bool) (hid : id < H.length) : ACalls Tryz.prog F.slide_slider_fastest [.agg (s.av ++ [.slice id off n 9 ex])] H (fun v h' => v = .agg (trv true s (.slice id off n 9 ex)) ∧ h' = H) := by
  obtain ⟨c, a1, a2, a3, a4, a5, a6, a7, a8, a9, a10⟩ := s
  simp only [trv, Sl.av, List.cons_append, List.nil_append, moF, leF, if_true]
  refine acalls_of ok_slide_slider_fastest rfl fun hcl => ?_
  unfold ac_slide_slider_fastest
  simp only [argsT, Nat.zero_add, Nat.reduceAdd]
  repeat (first|(with_reducible first|apply X1|apply X2|apply X3|apply X8)|((with_reducible apply e_end);(simp;exact Red.rfl))|((first|((with_reducible apply O1);rfl)|((with_reducible apply O2);rfl));(simp (disch:=omega);exact Red.rfl);exact Red.rfl;(focus (first|(simp;done)|omega|(simp;omega)))))
  refine q_drop (.inr rfl) (by simp; exact Red.rfl) (by simp [hid]) ⟨rfl, rfl⟩
theorem c_slowest (H : Heap) (s : Sl) (id off n : Nat) (ex : Bool) (hid : id < H.length) : ACalls Tryz.prog F.slide_slider_slowest [.agg (s.av ++ [.slice id off n 9 ex])] H (fun v h' => v = .agg (trv false s (.slice id off n 9 ex)) ∧ h' = H) := by
  obtain ⟨c, a1, a2, a3, a4, a5, a6, a7, a8, a9, a10⟩ := s
  simp only [trv, Sl.av, List.cons_append, List.nil_append, moF, leF, Bool.false_eq_true, if_false]
  refine acalls_of ok_slide_slider_slowest rfl fun hcl => ?_
  unfold ac_slide_slider_slowest
  simp only [argsT, Nat.zero_add, Nat.reduceAdd]
  repeat (first|(with_reducible first|apply X1|apply X2|apply X3|apply X8)|((with_reducible apply e_end);(simp;exact Red.rfl))|((first|((with_reducible apply O1);rfl)|((with_reducible apply O2);rfl));(simp (disch:=omega);exact Red.rfl);exact Red.rfl;(focus (first|(simp;done)|omega|(simp;omega)))))
  refine q_drop (.inr rfl) (by simp; exact Red.rfl) (by simp [hid]) ⟨rfl, rfl⟩

theorem c_heads (t : Bool) (H : Heap) (s : Sl) (sl : AV) (hs : sl.sc H.length = true) : ACalls Tryz.prog F.slide_truth_heads [.agg (trv t s sl)] H (fun v h' => v = .fn (.func F.slide_truth_heads_1) [] [.ptr H.length 0] ∧ h' = H ++ [.cells (trv t s sl) true]) := by
  obtain ⟨c, a1, a2, a3, a4, a5, a6, a7, a8, a9, a10⟩ := s
  simp only [trv, Sl.av, List.cons_append, List.nil_append]
  refine acalls_of ok_slide_truth_heads rfl fun hcl => ?_
  unfold ac_slide_truth_heads
  simp only [argsT, Nat.zero_add, Nat.reduceAdd]
  repeat (first|(with_reducible first|apply X1|apply X2|apply X3|apply X8)|((with_reducible apply e_end);(simp;exact Red.rfl))|((with_reducible apply O1);rfl;(simp (disch:=omega);exact Red.rfl);exact Red.rfl;(focus (first|(simp;done)|omega|(simp;omega)))))
  refine q_stay (.inr rfl) (by simp; exact Red.rfl) ⟨rfl, rfl⟩

theorem c_heads1 (t : Bool) (Y : Nat → Heap) (y pid : Nat) (s : Sl) (l : List Str) (id off : Nat) (ex : Bool) (hv : validL l) (hk : s.ok)
    (hlen : ∀ i, i ≤ l.length + 1 → Changed (Y 0) (Y i)) (hp : ∀ i, i ≤ l.length → (Y i)[pid]? = some (.cells (trv t s (.slice id off l.length 9 ex)) true))
    (hrd : ∀ i, i ≤ l.length → rd (Y i) id off (l.length * 9) = some (l.flatMap Str.av)) (hys : y < (Y 0).length)
    (hy : ∀ i : Nat, i ≤ l.length → AYields Tryz.prog y [.int .i64 i, .int .i64 (hd t s l i)] (Y i) (fun v h' => v = .bool true ∧ h' = Y (i + 1))) :
    ACalls Tryz.prog F.slide_truth_heads_1 [.yield y, .ptr pid 0] (Y 0) (fun _ h' => h' = Y (l.length + 1)) := by
  refine acalls_of ok_slide_truth_heads_1 rfl fun hcl => ?_
  unfold ac_slide_truth_heads_1
  simp only [argsT, Nat.zero_add, Nat.reduceAdd]
  have h12 := hv.1
  have hps : ∀ i, i ≤ l.length → pid < (Y i).length := fun i hi => (List.getElem?_eq_some_iff.1 (hp i hi)).1
  have hps0 := hps 0 (by omega)
  have rdp : ∀ i, i ≤ l.length → ∀ o n, o + n ≤ 14 → rd (Y i) pid o n = some (((trv t s (.slice id off l.length 9 ex)).drop o).take n) := by
    intro i hi o n hon
    unfold rd
    simp only [hp i hi]
    rw [if_pos (by simp [trv, Sl.av]; exact hon)]
  have r1 := rdp 0 (by omega) 12 1 (by omega)
  have r2 := rdp 0 (by omega) 1 2 (by omega)
  have r3 := rdp 0 (by omega) 11 1 (by omega)
  simp [trv, Sl.av] at r1 r2 r3
  repeat (first|(with_reducible first|apply X1|apply X2)|((with_reducible apply O1);rfl;(simp (disch:=omega) [r1, r2];exact Red.rfl);exact Red.rfl;(focus (first|(simp;done)|omega|(simp;omega)))))
  (with_reducible apply e_callV); (simp; exact Red.rfl); (simp; exact Red.rfl); exact c_mo t _ _ _
  rintro _ _ ⟨rfl, rfl⟩
  repeat (first|(with_reducible first|apply X1|apply X2|apply X6|apply X8)|((with_reducible apply e_end);(simp;exact Red.rfl))|((with_reducible apply O1);rfl;(simp (disch:=omega) [r3];exact Red.rfl);exact Red.rfl;(focus (first|(simp;done)|omega|(simp;omega)))))
  refine e_loop (ι := { i : Nat // i ≤ l.length })
    (fun i => [(0, .yield y), (1, .ptr pid 0), (3, .int .i64 (hd t s l i.1)), (15, .int .i64 l.length), (16, .int .i64 i.1)])
    (fun i => Y i.1) (fun i => l.length - i.1) ⟨0, by simp⟩ ?_ ?_
  · exact .inl rfl
  · rintro ⟨i, hi⟩
    dsimp only
    by_cases hlt : i < l.length
    · have hlt2 : (i : Int) < l.length := by omega
      repeat (first|(with_reducible first|apply X1|apply X2|apply X5|apply X6|apply X8)|((with_reducible apply e_end);(simp;exact Red.rfl))|((with_reducible apply O1);rfl;(simp (disch:=omega) [hlt, hlt2];exact Red.rfl);exact Red.rfl;(focus (first|(simp;done)|omega|(simp;omega))))|((with_reducible apply Z9);(simp (disch:=omega) [hlt, hlt2];exact Red.rfl)))
      (with_reducible apply e_callY); (simp; exact Red.rfl); (simp; exact Red.rfl); exact hy i (by omega)
      rintro _ _ ⟨rfl, rfl⟩
      have r4 := rdp (i + 1) (by omega) 0 14 (by omega)
      simp [trv, Sl.av] at r4
      repeat (first|(with_reducible first|apply X2|apply X5|apply X8)|((with_reducible apply e_end);(simp;exact Red.rfl))|((with_reducible apply O1);rfl;(simp (disch:=omega) [r4];exact Red.rfl);exact Red.rfl;(focus (first|(simp;done)|omega|(simp;omega))))|((with_reducible apply W3);(simp (disch:=omega) [r4];exact Red.rfl)))
      (with_reducible apply e_call); (simp; exact Red.rfl); exact c_next t _ s l id off ex (hrd (i + 1) (by omega)) hv hk i hlt _ (hd_bd hv hk t (by omega))
      rintro _ _ ⟨rfl, rfl⟩
      repeat (first|(with_reducible first|apply X2|apply X8|apply Y2)|((with_reducible apply e_end);(simp;exact Red.rfl))|((with_reducible apply O1);rfl;(simp (disch:=omega);exact Red.rfl);exact Red.rfl;(focus (first|(simp;done)|omega|(simp;omega)))))
      refine q_again ⟨i + 1, hlt⟩ (by dsimp only; omega) (.inl ?_)
      simp [hd, hdG]
    · obtain rfl : i = l.length := by omega
      have r4 := rdp l.length (by omega) 11 1 (by omega)
      simp [trv, Sl.av] at r4
      repeat (first|(with_reducible first|apply X1|apply X2|apply X4|apply X8|apply Y1|apply Y4|apply Y6)|((with_reducible apply e_end);(simp;exact Red.rfl))|((with_reducible apply O1);rfl;(simp (disch:=omega) [r4];exact Red.rfl);exact Red.rfl;(focus (first|(simp;done)|omega|(simp;omega))))|((with_reducible apply W3);(simp (disch:=omega) [r4];exact Red.rfl)))
      (with_reducible apply e_callY); (simp; exact Red.rfl); (simp; exact Red.rfl); exact hy l.length (by omega)
      rintro _ _ ⟨rfl, rfl⟩
      repeat ((with_reducible apply e_end);(simp;exact Red.rfl))
      exact q_dropC0 (v := .tuple []) (hlen _ (by omega)) (.inl rfl) (by simp; exact Red.rfl) (by simp) rfl
theorem avR_rep (zs : List AV) : ∀ n, (List.replicate n zs).flatten = avR (fun _ => zs) n
  | 0 => rfl
  | n + 1 => by rw [List.replicate_succ', List.flatten_append, avR_rep zs n, avR_succ]; simp
theorem r1_rep (n : Nat) : (List.replicate n [AV.int .i64 0]).flatten = avR (r1 fun _ => 0) n := avR_rep _ n
theorem r2_rep (n : Nat) : (List.replicate n [AV.int .i64 0, AV.int .i64 0]).flatten = avR (r2 (fun _ => 0) (fun _ => 0)) n := avR_rep _ n
theorem r1_put {f f' : Nat → Int} {n i : Nat} (hi : i < n) (hne : ∀ j, j < n → j ≠ i → f' j = f j) : splice (avR (r1 f) n) i [.int .i64 (f' i)] = avR (r1 f') n := by
  have := (plain_r1 f).put (plain_r1 f') (n := n) (i := i) (c := 0) (xs := [.int .i64 (f' i)]) hi (by simp) rfl (fun j h1 h2 => by simp only [r1, hne j h1 h2])
  simpa using this

theorem r1_rep' (n : Nat) : List.replicate n (AV.int .i64 0) = avR (r1 fun _ => 0) n := by rw [← r1_rep]; simp

def wiS (h : Nat → Int) (i j : Nat) : Int := if j + 1 < i then wiF h j else 0
def wiB (h : Nat → Int) : Nat → Int
  | 0 => 0
  | i + 1 => h i
def tW (H : Heap) : List (Nat × AV) := [(2, .nilslice), (3, .ptr (H.length + 2) 0), (4, .ptr (H.length + 3) 0), (13, .fn (.func F.slide_truth_heads_1) [] [.ptr (H.length + 4) 0])]
def wA : AC := .seq (.ops [⟨some 5, .mov (.t 14), none⟩] (some [3, 4, 5, 15])) (.ops [⟨some 6, .mov (.t 15), none⟩] (some [3, 4, 5, 6]))
def wB : AC := .block 1 (.seq (.seq (.ops [⟨some 16, .mov (.t 5), none⟩, ⟨some 17, .bin .gtr (.t 16) (.c (.int .i64 0)), none⟩] (some [3, 4, 5, 6, 17])) (.cond (.t 17) (.ops [⟨some 18, .load1 (.t 3), none⟩, ⟨some 19, .mov (.t 5), none⟩, ⟨some 20, .bin .sub (.t 19) (.c (.int .i64 1)), none⟩, ⟨some 21, .load1 (.t 4), none⟩, ⟨some 22, .mov (.t 6), none⟩, ⟨some 23, .max2 (.t 21) (.t 22), none⟩, ⟨some 24, .idxSl (.t 18) (.t 20) 1, none⟩, ⟨none, .store (.t 24) 1 (.t 23), none⟩] (some [4, 6])) (.skip))) (.ops [⟨some 25, .mov (.t 6), none⟩, ⟨none, .store (.t 4) 1 (.t 25), none⟩] (some [])))
def wL (H : Heap) : AObj := .other (.loop (tW H) [14, 15] wA wB .ready)
def wY (H : Heap) (to : AObj) (h : Nat → Int) (n i : Nat) : Heap := H ++ [to, .cells (avR (r1 (wiS h i)) n) true, .cells [.slice (H.length + 1) 0 n 1 true] true, .cells [.int .i64 (wiB h i)] true, to, wL H]

theorem y_wi (H : Heap) (to : AObj) (h : Nat → Int) (n i : Nat) (hi : i ≤ n) (hn : n < 1000000) :
    AYields Tryz.prog (H.length + 5) [.int .i64 i, .int .i64 (h i)] (wY H to h n i) (fun v h' => v = .bool true ∧ h' = wY H to h n (i + 1)) := by
  refine y_of (t := tW H) (ps := [14, 15]) (a := wA) (b := wB) (by simp only [wY]; rw [at_new]; rfl) rfl fun hcl => ?_
  unfold wA
  simp only [roundT, tW, List.zip_cons_cons, List.zip_nil_left, List.foldl_cons, List.foldl_nil, List.zip_nil_right, wY]
  repeat (first|(with_reducible first|apply X1|apply X2|apply X8)|((with_reducible apply e_end);(simp;exact Red.rfl))|((with_reducible apply O1);rfl;(simp (disch:=omega);exact Red.rfl);exact Red.rfl;(focus (first|(simp;done)|omega|(simp;omega)))))
  refine q_begin (tt := tW H) (by rw [at_new]; exact Red.rfl) (by rw [set_new]; exact Red.rfl) ?_
  unfold wB
  cases i with
  | zero =>
    repeat (first|(with_reducible first|apply X1|apply X2|apply X5|apply X6|apply X8|apply Y2)|((with_reducible apply e_end);(simp;exact Red.rfl))|((first|((with_reducible apply O1);rfl)|((with_reducible apply O2);rfl));(simp (disch:=omega) [wiB];exact Red.rfl);exact Red.rfl;(focus (first|(simp;done)|omega|(simp;omega))))|((with_reducible apply W3);(simp (disch:=omega) [wiB];exact Red.rfl)))
    refine q_end (tt := tW H) (by rw [at_new]; exact Red.rfl) (by rw [set_new]; exact Red.rfl) (.inl ?_) ⟨rfl, rfl⟩
    have e : avR (r1 (wiS h 0)) n = avR (r1 (wiS h (0 + 1))) n := avR_congr fun j _ => by simp [r1, wiS]
    rw [e]; rfl
  | succ k =>
    have hk : k < n := by omega
    have hk2 : (k : Int) < n := by omega
    have hl := (plain_r1 (wiS h (k + 1))).length n
    have hp : splice (avR (r1 (wiS h (k + 1))) n) k [.int .i64 (wiS h (k + 1 + 1) k)] = avR (r1 (wiS h (k + 1 + 1))) n := r1_put hk fun j _ hj => by
      unfold wiS; by_cases h1 : j + 1 < k + 1
      · rw [if_pos h1, if_pos (by omega)]
      · rw [if_neg h1, if_neg (by omega)]
    have hm : (if h k < h (k + 1) then h (k + 1) else h k) = wiS h (k + 1 + 1) k := by
      simp only [wiS, wiF, Nat.lt_add_one, if_true]; split <;> omega
    have hk3 : (0 : Int) < (k : Int) + 1 := by omega
    have le1 : k + 1 ≤ n := hk
    repeat (first|(with_reducible first|apply X1|apply X2|apply X6|apply X8|apply Y2)|((with_reducible apply e_end);(simp;exact Red.rfl))|((first|((with_reducible apply O1);rfl)|((with_reducible apply O2);rfl));(simp (disch:=omega) [wiB, hk, hk2, hk3, hl, -splice, hm, hp, le1];exact Red.rfl);exact Red.rfl;(focus (first|(simp;done)|omega|(simp;omega))))|((with_reducible apply Z9);(simp (disch:=omega) [wiB, hk, hk2, hk3, hl, -splice, hm, hp, le1];exact Red.rfl)))
    refine q_end (tt := tW H) (by rw [at_new]; exact Red.rfl) (by rw [set_new]; exact Red.rfl) (.inl ?_) ⟨rfl, rfl⟩
    rfl

theorem c_swithin (t : Bool) (H : Heap) (s : Sl) (l : List Str) (id off : Nat) (ex : Bool) (hs : rd H id off (l.length * 9) = some (l.flatMap Str.av)) (hv : validL l) (hk : s.ok) :
    ACalls Tryz.prog F.slide_truth_within [.agg (trv t s (.slice id off l.length 9 ex))] H (fun v h' => v = .slice H.length 0 l.length 1 true ∧ h' = H ++ [.cells (avR (r1 (wiF (hd t s l))) l.length) true]) := by
  have hid := rd_lt hs
  have h12 := hv.1
  have ch := fun H' sl => c_heads t H' s sl
  have c1 := c_heads1 t (wY H (.cells (trv t s (.slice id off l.length 9 ex)) true) (hd t s l) l.length) (H.length + 5) (H.length + 4) s l id off ex hv hk
  simp only [trv, Sl.av, List.cons_append, List.nil_append] at ch c1 ⊢
  refine acalls_of ok_slide_truth_within rfl fun hcl => ?_
  unfold ac_slide_truth_within
  simp only [argsT, Nat.zero_add, Nat.reduceAdd]
  have hn1 : (l.length : Int) ≤ 12 := by omega
  repeat (first|(with_reducible first|apply X1|apply X2|apply X8)|((with_reducible apply e_end);(simp;exact Red.rfl))|((first|((with_reducible apply O1);rfl)|((with_reducible apply O2);rfl));(simp (disch:=omega) [r1_rep];exact Red.rfl);exact Red.rfl;(focus (first|(simp;done)|omega|(simp;omega)))))
  (with_reducible apply e_call); (simp; exact Red.rfl); exact ch _ _ (by simp; omega)
  rintro _ _ ⟨rfl, rfl⟩
  repeat (first|(with_reducible first|apply X6|apply X8)|((with_reducible apply e_end);(simp;exact Red.rfl)))
  refine e_range (R := fun _ h' => h' = wY H (.cells (trv t s (.slice id off l.length 9 ex)) true) (hd t s l) l.length (l.length + 1)) (by simp; exact Red.rfl) (by simp [tSc]) (by simp; exact Red.rfl) ?_ ?_
  · have e0 : avR (r1 (wiS (hd t s l) 0)) l.length = List.replicate l.length (AV.int .i64 0) := by
      rw [r1_rep']; exact avR_congr fun j _ => by simp [r1, wiS]
    have q : ∀ i, i ≤ l.length + 1 → Changed (wY H (.cells (trv t s (.slice id off l.length 9 ex)) true) (hd t s l) l.length 0) (wY H (.cells (trv t s (.slice id off l.length 9 ex)) true) (hd t s l) l.length i) := by
      intro i hi
      refine ⟨by simp [wY], fun j o h => ?_⟩
      simp only [wY] at h ⊢
      rcases Nat.lt_or_ge j H.length with hj | hj
      · rw [List.getElem?_append_left hj] at h
        exact .inl (by rw [List.getElem?_append_left hj]; exact h)
      · rw [List.getElem?_append_right hj] at h
        rw [List.getElem?_append_right hj]
        match hk : j - H.length, h with
        | 0, h => exact .inl h
        | 1, h => simp at h; subst h; exact .inr (((plain_r1 _).plain _).o _)
        | 2, h => exact .inl h
        | 3, h => simp at h; subst h; exact .inr (Plain.o ⟨rfl, fun _ => rfl, fun _ => rfl⟩ _)
        | 4, h => exact .inl h
        | 5, h => exact .inl h
        | _ + 6, h => simp at h
    have := c1 q (fun i hi => by simp only [wY]; rw [at_new]; rfl) (fun i hi => by simp only [wY]; rw [rd_old _ hid]; exact hs) (by simp [wY]) (fun i hi => y_wi _ _ _ _ i hi (by omega))
    simp only [wY, e0, wiB, wL, tW, wA, wB, trv, Sl.av, List.cons_append, List.nil_append] at this ⊢
    simpa using this
  · rintro _ _ rfl
    simp only [wY, wL]
    refine range_end (tt := tW H) (ps := [14, 15]) (a := wA) (b := wB) (by simp [at_new]; exact Red.rfl) (by simp [set_new]; exact Red.rfl) ?_
    repeat (first|(with_reducible first|apply X1|apply X2|apply X3|apply X8|apply Y2)|((with_reducible apply e_end);(simp;exact Red.rfl))|((with_reducible apply O1);rfl;(simp (disch:=omega);exact Red.rfl);exact Red.rfl;(focus (first|(simp;done)|omega|(simp;omega)))))
    have e1 : avR (r1 (wiS (hd t s l) (l.length + 1))) l.length = avR (r1 (wiF (hd t s l))) l.length := avR_congr fun j hj => by simp only [r1, wiS]; rw [if_pos (by omega)]
    rw [e1]
    exact q_post (v' := .slice H.length 0 l.length 1 true) (.inr rfl) (by simp; exact Red.rfl) (le_plain [1] _ (by simp) rfl (by simp; exact ((plain_r1 _).plain _).o _) (by simp [sh, AV.ren])) ⟨rfl, rfl⟩
theorem r2_put1 {f f' g : Nat → Int} {n i : Nat} (hi : i < n) (hne : ∀ j, j < n → j ≠ i → f' j = f j) : splice (avR (r2 f g) n) (i * 2) [.int .i64 (f' i)] = avR (r2 f' g) n :=
  (plain_r2 f g).put (plain_r2 f' g) (n := n) (i := i) (c := 0) (xs := [.int .i64 (f' i)]) hi (by simp) rfl (fun j h1 h2 => by simp only [r2, hne j h1 h2])
theorem r2_put2 {f g g' : Nat → Int} {n i : Nat} (hi : i < n) (hne : ∀ j, j < n → j ≠ i → g' j = g j) : splice (avR (r2 f g) n) (i * 2 + 1) [.int .i64 (g' i)] = avR (r2 f g') n :=
  (plain_r2 f g).put (plain_r2 f g') (n := n) (i := i) (c := 1) (xs := [.int .i64 (g' i)]) hi (by simp) rfl (fun j h1 h2 => by simp only [r2, hne j h1 h2])

theorem one_sled {s : Sl} {P : Sl → Prop} : (∀ i (hi : i < [s].length), P [s][i]) ↔ P s := by
  constructor
  · intro h; exact h 0 (by simp)
  · intro h i hi
    simp only [List.length_cons, List.length_nil] at hi
    obtain rfl : i = 0 := by omega
    exact h

theorem c_checkOne (H : Heap) (l : List Str) (id off : Nat) (ex : Bool) (s : Sl) (xid xoff : Nat) (xex : Bool) (hs : rd H id off (l.length * 9) = some (l.flatMap Str.av)) (hv : validL l) (hk : s.ok)
    (hx : rd H xid xoff 11 = some s.av) :
    ACalls Tryz.prog F.slide_checkAll [.agg [.slice id off l.length 9 ex], .slice xid xoff 1 11 xex] H (fun v h' => v = .int .i64 0 ∧ h' = H) := by
  refine (c_scheckAll H l id off ex [s] xid xoff xex hs (by have := hv.1; omega) (by simpa using hx) (by simp)).mono ?_
  rintro _ _ ⟨rfl, e, rfl, h⟩
  have h1 : ∀ i (hi : i < [s].length), ([s][i]).ok := one_sled.2 hk
  rcases h with ⟨rfl, _⟩ | ⟨_, h⟩ | ⟨_, _, h⟩ | ⟨_, _, _, h⟩
  · exact ⟨rfl, rfl⟩
  · exact absurd hv h
  · simp at h
  · exact absurd h1 h

def ChgL : Heap → Heap → Prop
  | [], [] => True
  | a :: xs, b :: ys => (b = a ∨ PlainO b) ∧ ChgL xs ys
  | _, _ => False
theorem chgL : ∀ {G G' : Heap}, ChgL G G' → G'.length = G.length ∧ ∀ (i : Nat) (o : AObj), G'[i]? = some o → G[i]? = some o ∨ PlainO o
  | [], [], _ => ⟨rfl, fun _ _ h => .inl h⟩
  | a :: xs, b :: ys, h => by
    obtain ⟨h1, h2⟩ := chgL h.2
    refine ⟨by simp [h1], fun i o hi => ?_⟩
    cases i with
    | zero => simp at hi; subst hi; rcases h.1 with rfl | h3
              · exact .inl rfl
              · exact .inr h3
    | succ i => simpa using h2 i o (by simpa using hi)
  | [], _ :: _, h => h.elim
  | _ :: _, [], h => h.elim
theorem chg_app (H : Heap) {G G' : Heap} (h : ChgL G G') : Changed (H ++ G) (H ++ G') := by
  obtain ⟨h1, h2⟩ := chgL h
  refine ⟨by simp [h1], fun j o hj => ?_⟩
  rcases Nat.lt_or_ge j H.length with h3 | h3
  · rw [List.getElem?_append_left h3] at hj ⊢; exact .inl hj
  · rw [List.getElem?_append_right h3] at hj ⊢; exact h2 _ _ hj

def hS (h : Nat → Int) (i j : Nat) : Int := if j < i then h j else 0
theorem hS_ne (h : Nat → Int) {i j : Nat} (hj : j ≠ i) : hS h (i + 1) j = hS h i j := by
  unfold hS; by_cases h1 : j < i
  · rw [if_pos h1, if_pos (by omega)]
  · rw [if_neg h1, if_neg (by omega)]
theorem hS_at (h : Nat → Int) (i : Nat) : hS h (i + 1) i = h i := by simp [hS]
def tH1 (H : Heap) : List (Nat × AV) := [(4, .nilslice), (5, .int .i64 0), (7, .ptr (H.length + 3) 0), (8, .ptr (H.length + 5) 0), (31, .fn (.func F.slide_truth_heads_1) [] [.ptr (H.length + 6) 0])]
def hA1 : AC := .seq (.ops [⟨some 9, .mov (.t 32), none⟩] (some [8, 9, 33])) (.ops [⟨some 10, .mov (.t 33), none⟩] (some [8, 9, 10]))
def hB1 : AC := .block 1 (.ops [⟨some 34, .load1 (.t 8), none⟩, ⟨some 35, .mov (.t 9), none⟩, ⟨some 36, .mov (.t 10), none⟩, ⟨some 37, .idxSl (.t 34) (.t 35) 2, none⟩, ⟨some 38, .fieldAddr (.t 37) 0, none⟩, ⟨none, .store (.t 38) 1 (.t 36), none⟩] (some []))
def hL1 (H : Heap) : AObj := .other (.loop (tH1 H) [32, 33] hA1 hB1 .ready)
def hY1 (H : Heap) (o0 o1 o2 o3 o6 : AObj) (h : Nat → Int) (n i : Nat) : Heap := H ++ [o0, o1, o2, o3, .cells (avR (r2 (hS h i) (fun _ => 0)) (n + 1)) true, .cells [.slice (H.length + 4) 0 (n + 1) 2 true] true, o6, hL1 H]
theorem y_h1 (H : Heap) (o0 o1 o2 o3 o6 : AObj) (h : Nat → Int) (n i : Nat) (hi : i ≤ n) (hn : n < 1000000) :
    AYields Tryz.prog (H.length + 7) [.int .i64 i, .int .i64 (h i)] (hY1 H o0 o1 o2 o3 o6 h n i) (fun v h' => v = .bool true ∧ h' = hY1 H o0 o1 o2 o3 o6 h n (i + 1)) := by
  refine y_of (t := tH1 H) (ps := [32, 33]) (a := hA1) (b := hB1) (by simp only [hY1]; rw [at_new]; rfl) rfl fun hcl => ?_
  unfold hA1
  simp only [roundT, tH1, List.zip_cons_cons, List.zip_nil_left, List.foldl_cons, List.foldl_nil, List.zip_nil_right, hY1]
  repeat (first|(with_reducible first|apply X1|apply X2|apply X8)|((with_reducible apply e_end);(simp;exact Red.rfl))|((with_reducible apply O1);rfl;(simp (disch:=omega);exact Red.rfl);exact Red.rfl;(focus (first|(simp;done)|omega|(simp;omega)))))
  refine q_begin (tt := tH1 H) (by rw [at_new]; exact Red.rfl) (by rw [set_new]; exact Red.rfl) ?_
  unfold hB1
  have k1 : i < n + 1 := by omega
  have k2 : (i : Int) < (n : Int) + 1 := by omega
  have hl := (plain_r2 (hS h i) (fun _ => 0)).length (n + 1)
  have hp : splice (avR (r2 (hS h i) (fun _ => 0)) (n + 1)) (i * 2) [.int .i64 (h i)] = avR (r2 (hS h (i + 1)) (fun _ => 0)) (n + 1) := by
    have := r2_put1 (f := hS h i) (f' := hS h (i + 1)) (g := fun _ => 0) k1 (fun j _ hj => hS_ne h hj)
    rw [hS_at] at this; exact this
  have le1 : i * 2 + 1 ≤ (n + 1) * 2 := by omega
  repeat (first|(with_reducible first|apply X2|apply X6|apply Y2)|((with_reducible apply e_end);(simp;exact Red.rfl))|((first|((with_reducible apply O1);rfl)|((with_reducible apply O2);rfl));(simp (disch:=omega) [k1, k2, hl, -splice, hp, le1];exact Red.rfl);exact Red.rfl;(focus (first|(simp;done)|omega|(simp;omega)))))
  exact q_end (tt := tH1 H) (by rw [at_new]; exact Red.rfl) (by rw [set_new]; exact Red.rfl) (.inl rfl) ⟨rfl, rfl⟩

def tH2 (H : Heap) : List (Nat × AV) := [(4, .nilslice), (5, .int .i64 0), (8, .ptr (H.length + 5) 0), (41, .fn (.func F.slide_truth_heads_1) [] [.ptr (H.length + 8) 0])]
def hA2 : AC := .seq (.ops [⟨some 11, .mov (.t 42), none⟩] (some [8, 11, 43])) (.ops [⟨some 12, .mov (.t 43), none⟩] (some [8, 11, 12]))
def hB2 : AC := .block 3 (.ops [⟨some 44, .load1 (.t 8), none⟩, ⟨some 45, .mov (.t 11), none⟩, ⟨some 46, .mov (.t 12), none⟩, ⟨some 47, .idxSl (.t 44) (.t 45) 2, none⟩, ⟨some 48, .fieldAddr (.t 47) 1, none⟩, ⟨none, .store (.t 48) 1 (.t 46), none⟩] (some []))
def hL2 (H : Heap) : AObj := .other (.loop (tH2 H) [42, 43] hA2 hB2 .ready)
def hY2 (H : Heap) (o0 o1 o2 o3 o6 o8 : AObj) (f h : Nat → Int) (n i : Nat) : Heap := H ++ [o0, o1, o2, o3, .cells (avR (r2 f (hS h i)) (n + 1)) true, .cells [.slice (H.length + 4) 0 (n + 1) 2 true] true, o6, .dead, o8, hL2 H]
theorem y_h2 (H : Heap) (o0 o1 o2 o3 o6 o8 : AObj) (f h : Nat → Int) (n i : Nat) (hi : i ≤ n) (hn : n < 1000000) :
    AYields Tryz.prog (H.length + 9) [.int .i64 i, .int .i64 (h i)] (hY2 H o0 o1 o2 o3 o6 o8 f h n i) (fun v h' => v = .bool true ∧ h' = hY2 H o0 o1 o2 o3 o6 o8 f h n (i + 1)) := by
  refine y_of (t := tH2 H) (ps := [42, 43]) (a := hA2) (b := hB2) (by simp only [hY2]; rw [at_new]; rfl) rfl fun hcl => ?_
  unfold hA2
  simp only [roundT, tH2, List.zip_cons_cons, List.zip_nil_left, List.foldl_cons, List.foldl_nil, List.zip_nil_right, hY2]
  repeat (first|(with_reducible first|apply X1|apply X2|apply X8)|((with_reducible apply e_end);(simp;exact Red.rfl))|((with_reducible apply O1);rfl;(simp (disch:=omega);exact Red.rfl);exact Red.rfl;(focus (first|(simp;done)|omega|(simp;omega)))))
  refine q_begin (tt := tH2 H) (by rw [at_new]; exact Red.rfl) (by rw [set_new]; exact Red.rfl) ?_
  unfold hB2
  have k1 : i < n + 1 := by omega
  have k2 : (i : Int) < (n : Int) + 1 := by omega
  have hl := (plain_r2 f (hS h i)).length (n + 1)
  have hp : splice (avR (r2 f (hS h i)) (n + 1)) (i * 2 + 1) [.int .i64 (h i)] = avR (r2 f (hS h (i + 1))) (n + 1) := by
    have := r2_put2 (f := f) (g := hS h i) (g' := hS h (i + 1)) k1 (fun j _ hj => hS_ne h hj)
    rw [hS_at] at this; exact this
  have le1 : i * 2 + 1 + 1 ≤ (n + 1) * 2 := by omega
  repeat (first|(with_reducible first|apply X2|apply X6|apply Y2)|((with_reducible apply e_end);(simp;exact Red.rfl))|((first|((with_reducible apply O1);rfl)|((with_reducible apply O2);rfl));(simp (disch:=omega) [k1, k2, hl, -splice, hp, le1];exact Red.rfl);exact Red.rfl;(focus (first|(simp;done)|omega|(simp;omega)))))
  exact q_end (tt := tH2 H) (by rw [at_new]; exact Red.rfl) (by rw [set_new]; exact Red.rfl) (.inl rfl) ⟨rfl, rfl⟩

theorem c_sHeads (H : Heap) (l : List Str) (id off : Nat) (ex : Bool) (s : Sl) (hs : rd H id off (l.length * 9) = some (l.flatMap Str.av)) (hv : validL l) (hk : s.ok) :
    ACalls Tryz.prog F.slide_Heads [.agg [.slice id off l.length 9 ex], .agg s.av] H
      (fun v h' => v = .tuple [.slice H.length 0 (l.length + 1) 2 true, .int .i64 0] ∧ h' = H ++ [.cells (avR (r2 (hd false s l) (hd true s l)) (l.length + 1)) true]) := by
  have hid := rd_lt hs
  have h12 := hv.1
  have c1 := c_heads1 false (hY1 H (.cells [.slice id off l.length 9 ex] true) (.cells s.av true) (.cells s.av true) (.cells (s.av ++ [.slice id off l.length 9 ex]) true) (.cells (trv false s (.slice id off l.length 9 ex)) true) (hd false s l) l.length) (H.length + 7) (H.length + 6) s l id off ex hv hk
    (fun i _ => chg_app H ⟨.inl rfl, .inl rfl, .inl rfl, .inl rfl, .inr (((plain_r2 _ _).plain _).o _), .inl rfl, .inl rfl, .inl rfl, trivial⟩)
    (fun i hi => by simp only [hY1]; rw [at_new]; rfl) (fun i hi => by simp only [hY1]; rw [rd_old _ hid]; exact hs) (by simp [hY1]) (fun i hi => y_h1 _ _ _ _ _ _ _ _ i hi (by omega))
  have c2 := fun f => c_heads1 true (hY2 H (.cells [.slice id off l.length 9 ex] true) (.cells s.av true) (.cells s.av true) (.cells (s.av ++ [.slice id off l.length 9 ex]) true) (.cells (trv false s (.slice id off l.length 9 ex)) true) (.cells (trv true s (.slice id off l.length 9 ex)) true) f (hd true s l) l.length) (H.length + 9) (H.length + 8) s l id off ex hv hk
    (fun i _ => chg_app H ⟨.inl rfl, .inl rfl, .inl rfl, .inl rfl, .inr (((plain_r2 _ _).plain _).o _), .inl rfl, .inl rfl, .inl rfl, .inl rfl, .inl rfl, trivial⟩)
    (fun i hi => by simp only [hY2]; rw [at_new]; rfl) (fun i hi => by simp only [hY2]; rw [rd_old _ hid]; exact hs) (by simp [hY2]) (fun i hi => y_h2 _ _ _ _ _ _ _ _ _ _ i hi (by omega))
  have z0 : ∀ h : Nat → Int, hS h 0 = fun _ => 0 := fun h => by funext j; simp [hS]
  have ch := fun t H' sl => c_heads t H' s sl
  have cs := fun H' h => c_slowest H' s id off l.length ex h
  have cf := fun H' h => c_fastest H' s id off l.length ex h
  have ck := fun H' h1 xid h2 => c_checkOne H' l id off ex s xid 0 true h1 hv hk h2
  simp only [trv, Sl.av, List.cons_append, List.nil_append] at ch cs cf ck c1 c2 ⊢
  refine acalls_of ok_slide_Heads rfl fun hcl => ?_
  unfold ac_slide_Heads
  simp only [argsT, Nat.zero_add, Nat.reduceAdd]
  have hn1 : (l.length : Int) ≤ 12 := by omega
  repeat (first|(with_reducible first|apply X1|apply X2|apply X8)|((with_reducible apply e_end);(simp;exact Red.rfl))|((with_reducible apply O1);rfl;(simp (disch:=omega);exact Red.rfl);exact Red.rfl;(focus (first|(simp;done)|omega|(simp;omega)))))
  (with_reducible apply e_call); (simp; exact Red.rfl); exact ck _ (by rw [rd_old _ hid]; exact hs) _ (by simp)
  rintro _ _ ⟨rfl, rfl⟩
  repeat (first|(with_reducible first|apply X1|apply X2|apply X5|apply X8)|((with_reducible apply e_end);(simp;exact Red.rfl))|((first|((with_reducible apply O1);rfl)|((with_reducible apply O2);rfl));(simp (disch:=omega) [r2_rep];exact Red.rfl);exact Red.rfl;(focus (first|(simp;done)|omega|(simp;omega))))|((with_reducible apply W3);(simp (disch:=omega) [r2_rep];exact Red.rfl)))
  (with_reducible apply e_call); (simp; exact Red.rfl); exact cs _ (by simp; omega)
  rintro _ _ ⟨rfl, rfl⟩
  skip
  (with_reducible apply e_call); (simp; exact Red.rfl); exact ch _ _ _ (by simp; omega)
  rintro _ _ ⟨rfl, rfl⟩
  repeat (first|(with_reducible first|apply X6|apply X8)|((with_reducible apply e_end);(simp;exact Red.rfl)))
  refine e_range (R := fun _ h' => h' = hY1 H (.cells [.slice id off l.length 9 ex] true) (.cells s.av true) (.cells s.av true) (.cells (s.av ++ [.slice id off l.length 9 ex]) true) (.cells (trv false s (.slice id off l.length 9 ex)) true) (hd false s l) l.length (l.length + 1)) (by simp; exact Red.rfl) (by simp [tSc]) (by simp; exact Red.rfl) ?_ ?_
  · simp only [hY1, z0, hL1, tH1, hA1, hB1, trv, Sl.av, List.cons_append, List.nil_append] at c1 ⊢
    simpa using c1
  · rintro _ _ rfl
    simp only [hY1, hL1]
    refine range_end (tt := tH1 H) (ps := [32, 33]) (a := hA1) (b := hB1) (by simp [at_new]; exact Red.rfl) (by simp [set_new]; exact Red.rfl) ?_
    repeat (first|(with_reducible first|apply X1|apply X2|apply X8|apply Y2)|((with_reducible apply O1);rfl;(simp (disch:=omega) [Sl.av];exact Red.rfl);exact Red.rfl;(focus (first|(simp;done)|omega|(simp;omega)))))
    (with_reducible apply e_call); (simp; exact Red.rfl); exact cf _ (by simp; omega)
    rintro _ _ ⟨rfl, rfl⟩
    skip
    (with_reducible apply e_call); (simp; exact Red.rfl); exact ch _ _ _ (by simp; omega)
    rintro _ _ ⟨rfl, rfl⟩
    repeat (first|(with_reducible first|apply X6|apply X8)|((with_reducible apply e_end);(simp;exact Red.rfl)))
    refine e_range (R := fun _ h' => h' = hY2 H (.cells [.slice id off l.length 9 ex] true) (.cells s.av true) (.cells s.av true) (.cells (s.av ++ [.slice id off l.length 9 ex]) true) (.cells (trv false s (.slice id off l.length 9 ex)) true) (.cells (trv true s (.slice id off l.length 9 ex)) true) (hS (hd false s l) (l.length + 1)) (hd true s l) l.length (l.length + 1)) (by simp; exact Red.rfl) (by simp [tSc]) (by simp; exact Red.rfl) ?_ ?_
    · have c2' := c2 (hS (hd false s l) (l.length + 1))
      simp only [hY2, z0, hL2, tH2, hA2, hB2, trv, Sl.av, List.cons_append, List.nil_append] at c2' ⊢
      simpa using c2'
    · rintro _ _ rfl
      simp only [hY2, hL2]
      refine range_end (tt := tH2 H) (ps := [42, 43]) (a := hA2) (b := hB2) (by simp [at_new]; exact Red.rfl) (by simp [set_new]; exact Red.rfl) ?_
      repeat (first|(with_reducible first|apply X1|apply X2|apply X3|apply X8|apply Y2)|((with_reducible apply e_end);(simp;exact Red.rfl))|((with_reducible apply O1);rfl;(simp (disch:=omega);exact Red.rfl);exact Red.rfl;(focus (first|(simp;done)|omega|(simp;omega)))))
      have e1 : avR (r2 (hS (hd false s l) (l.length + 1)) (hS (hd true s l) (l.length + 1))) (l.length + 1) = avR (r2 (hd false s l) (hd true s l)) (l.length + 1) := avR_congr fun j hj => by simp only [r2, hS]; rw [if_pos hj, if_pos hj]
      rw [e1]
      exact q_post (v' := .tuple [.slice H.length 0 (l.length + 1) 2 true, .int .i64 0]) (.inr rfl) (by simp; exact Red.rfl) (le_plain [4] _ (by simp) rfl (by simp; exact ((plain_r2 _ _).plain _).o _) (by simp [sh, AV.ren, renL])) ⟨rfl, rfl⟩
end Go.Proofs
