/- Several texts as one. -/
import Derived.Test.YtjagjbelmonpmaaXB
import Derived.Test.YtjagjbelmonpmaaDD
/- The law TrackMarks. -/
namespace Go.Proofs
open Go.Abs
attribute [local simp] AOp.den AOpd.ev lk cellsOf rd_new rd_new0 rd_zero rd_succ wr_new wr_new0 wr_zero wr_succ splice fillA binA scal sliceCells List.length_append argsT AV.sc scL AObj.sc resV getAll AR.get AOp.slots opdSlots opdsSlots partSlots eqAt at_new0 at_new set_new0 set_new wrap64
set_option linter.unusedSimpArgs false
set_option linter.unusedVariables false
theorem check_both (l : List Str) (hn : (l.length : Int) < 1000000) : ∃ e : Int, (0 ≤ e ∧ e ≤ 100) ∧ ∀ (H : Heap) (id off : Nat) (ex : Bool), rd H id off (l.length * 9) = some (l.flatMap Str.av) →
    ACalls Try.prog F.track_Check [.agg [.slice id off l.length 9 ex]] H (fun v h' => v = .int .i64 e ∧ h' = H) ∧ ACalls Try.prog F.ref01_Check [.agg [.slice id off l.length 9 ex]] H (fun v h' => v = .int .i64 e ∧ h' = H) := by
  by_cases hv : validL l
  · refine ⟨0, by omega, fun H id off ex hs => ⟨(c_Check H l id off ex hs hn).mono ?_, (c_rCheck H l id off ex hs hn).mono ?_⟩⟩
    · rintro v h ⟨rfl, e, rfl, h | h⟩
      · exact ⟨by rw [h.2], rfl⟩
      · exact absurd hv h.1
    · rintro v h ⟨rfl, e, rfl, h | h⟩
      · exact ⟨by rw [h.2], rfl⟩
      · exact absurd hv h.1
  · refine ⟨10, by omega, fun H id off ex hs => ⟨(c_Check H l id off ex hs hn).mono ?_, (c_rCheck H l id off ex hs hn).mono ?_⟩⟩
    · rintro v h ⟨rfl, e, rfl, h | h⟩
      · exact absurd h.1 hv
      · exact ⟨by rw [h.2], rfl⟩
    · rintro v h ⟨rfl, e, rfl, h | h⟩
      · exact absurd h.1 hv
      · exact ⟨by rw [h.2], rfl⟩
theorem drop_both (l : List Str) (a b : Int) (hn : (l.length : Int) < 1000000) : ∃ p q r s e : Int, (0 ≤ e ∧ e ≤ 100) ∧ ∀ (H : Heap) (id off : Nat) (ex : Bool), rd H id off (l.length * 9) = some (l.flatMap Str.av) →
    ACalls Try.prog F.track_Drop [.agg [.slice id off l.length 9 ex], .int .i64 a, .int .i64 b] H (fun v h' => v = .tuple [.agg [.int .i64 p, .int .i64 q], .agg [.int .i64 r, .int .i64 s], .int .i64 e] ∧ h' = H) ∧
    ACalls Try.prog F.ref01_Drop [.agg [.slice id off l.length 9 ex], .int .i64 a, .int .i64 b] H (fun v h' => v = .tuple [.agg [.int .i64 p, .int .i64 q], .agg [.int .i64 r, .int .i64 s], .int .i64 e] ∧ h' = H) := by
  by_cases hv : validL l
  · by_cases hd : dOK l a b
    · obtain ⟨x, rfl⟩ := Int.eq_ofNat_of_zero_le hd.1
      obtain ⟨y, rfl⟩ := Int.eq_ofNat_of_zero_le (Int.le_trans hd.1 hd.2.1)
      have h1 : x ≤ y := by have := hd.2.1; omega
      have h2 : y ≤ l.length := by have := hd.2.2; omega
      exact ⟨_, _, _, _, 0, by omega, fun H id off ex hs => ⟨c_Drop H l id off ex x y hs hv h1 h2, c_rDrop H l id off ex x y hs hv h1 h2⟩⟩
    · exact ⟨0, 0, 0, 0, 2, by omega, fun H id off ex hs => ⟨c_DropE H l id off ex a b hs hn (.inr hd) 2 (fun h => absurd hv h) (fun _ => rfl), c_rDropE H l id off ex a b hs hn (.inr hd) 2 (fun h => absurd hv h) (fun _ => rfl)⟩⟩
  · exact ⟨0, 0, 0, 0, 10, by omega, fun H id off ex hs => ⟨c_DropE H l id off ex a b hs hn (.inl hv) 10 (fun _ => rfl) (fun h => absurd h hv), c_rDropE H l id off ex a b hs hn (.inl hv) 10 (fun _ => rfl) (fun h => absurd h hv)⟩⟩
theorem slope_both (l : List Str) (i : Int) (hn : (l.length : Int) < 1000000) : ∃ p q e : Int, (0 ≤ e ∧ e ≤ 100) ∧ ∀ (H : Heap) (id off : Nat) (ex : Bool), rd H id off (l.length * 9) = some (l.flatMap Str.av) →
    ACalls Try.prog F.track_Slope [.agg [.slice id off l.length 9 ex], .int .i64 i] H (fun v h' => v = .tuple [.agg [.int .i64 p, .int .i64 q], .int .i64 e] ∧ h' = H) ∧
    ACalls Try.prog F.ref01_Slope [.agg [.slice id off l.length 9 ex], .int .i64 i] H (fun v h' => v = .tuple [.agg [.int .i64 p, .int .i64 q], .int .i64 e] ∧ h' = H) := by
  by_cases hv : validL l
  · by_cases hd : 0 ≤ i ∧ i < l.length
    · obtain ⟨x, rfl⟩ := Int.eq_ofNat_of_zero_le hd.1
      have h1 : x < l.length := by have := hd.2; omega
      exact ⟨_, _, 0, by omega, fun H id off ex hs => ⟨c_Slope H l id off x ex hs hv h1, c_rSlope H l id off x ex hs hv h1⟩⟩
    · exact ⟨0, 0, 2, by omega, fun H id off ex hs => ⟨c_SlopeE H l id off ex i hs hn (.inr hd) 2 (fun h => absurd hv h) (fun _ => rfl), c_rSlopeE H l id off ex i hs hn (.inr hd) 2 (fun h => absurd hv h) (fun _ => rfl)⟩⟩
  · exact ⟨0, 0, 10, by omega, fun H id off ex hs => ⟨c_SlopeE H l id off ex i hs hn (.inl hv) 10 (fun _ => rfl) (fun h => absurd h hv), c_rSlopeE H l id off ex i hs hn (.inl hv) 10 (fun _ => rfl) (fun h => absurd h hv)⟩⟩
/-- What a call leaves that returns a list of numbers, which may be nil, and a number. -/
def lsR (H : Heap) (xs : List Nat) (e : Int) (v : AV) (h' : Heap) : Prop := v = .tuple [lsV H 1 xs.length, .int .i64 e] ∧ h' = H ++ lsO xs.length (avK xs)
theorem lsR_ne {H : Heap} {xs : List Nat} {e : Int} (hne : xs ≠ []) : (fun v h' => v = .tuple [.slice H.length 0 xs.length 1 false, .int .i64 e] ∧ h' = H ++ [.cells (avK xs) true]) = lsR H xs e := by
  have : ¬ xs.length = 0 := by simpa using hne
  funext v h'
  simp only [lsR, lsV, lsO, if_neg this]
theorem lsR_nil {H : Heap} {e : Int} : (fun v h' => v = .tuple [.nilslice, .int .i64 e] ∧ h' = H) = lsR H [] e := by
  funext v h'
  simp [lsR, lsV, lsO]
theorem place_both (l : List Str) (at_ : Int) (hn : (l.length : Int) < 1000000) : ∃ (xs : List Nat) (e : Int), (xs.length ≤ 1000 ∧ 0 ≤ e ∧ e ≤ 100) ∧ ∀ (H : Heap) (id off : Nat) (ex : Bool), rd H id off (l.length * 9) = some (l.flatMap Str.av) →
    ACalls Try.prog F.track_Place [.agg [.slice id off l.length 9 ex], .int .i64 at_] H (lsR H xs e) ∧ ACalls Try.prog F.ref01_Place [.agg [.slice id off l.length 9 ex], .int .i64 at_] H (lsR H xs e) := by
  by_cases hv : validL l
  · by_cases hd : 0 ≤ at_ ∧ at_ ≤ 360000
    · refine ⟨plL_ l at_, 0, ⟨?_, by omega, by omega⟩, fun H id off ex hs => ?_⟩
      · have := selF_len (plSel l at_) (l.length + 1); have := hv.1; simp only [plL_]; omega
      · rw [← lsR_ne (plL_ne hv hd.1)]
        exact ⟨c_Place H l at_ id off ex hs hv hd.1 hd.2, c_rPlace H l at_ id off ex hs hv hd.1 hd.2⟩
    · refine ⟨[], 2, by simp, fun H id off ex hs => ?_⟩
      rw [← lsR_nil]
      exact ⟨c_PlaceE H l id off ex at_ hs hn (.inr hd) 2 (fun h => absurd hv h) (fun _ => rfl), c_rPlaceE H l id off ex at_ hs hn (.inr hd) 2 (fun h => absurd hv h) (fun _ => rfl)⟩
  · refine ⟨[], 10, by simp, fun H id off ex hs => ?_⟩
    rw [← lsR_nil]
    exact ⟨c_PlaceE H l id off ex at_ hs hn (.inl hv) 10 (fun _ => rfl) (fun h => absurd h hv), c_rPlaceE H l id off ex at_ hs hn (.inl hv) 10 (fun _ => rfl) (fun h => absurd h hv)⟩
theorem steepest_both (l : List Str) (hn : (l.length : Int) < 1000000) : ∃ (xs : List Nat) (e : Int), (xs.length ≤ 1000 ∧ 0 ≤ e ∧ e ≤ 100) ∧ ∀ (H : Heap) (id off : Nat) (ex : Bool), rd H id off (l.length * 9) = some (l.flatMap Str.av) →
    ACalls Try.prog F.track_Steepest [.agg [.slice id off l.length 9 ex]] H (lsR H xs e) ∧ ACalls Try.prog F.ref01_Steepest [.agg [.slice id off l.length 9 ex]] H (lsR H xs e) := by
  by_cases hv : validL l
  · refine ⟨ksF l l.length, 0, ⟨?_, by omega, by omega⟩, fun H id off ex hs => ?_⟩
    · have := selF_len (selB l) l.length; have := hv.1
      have e : ksF l l.length = selF (selB l) l.length := rfl
      rw [e]; omega
    · rw [← lsR_ne (by obtain ⟨a, r, e⟩ := ksF_ne hv; rw [e]; simp)]
      exact ⟨c_Steepest H l id off ex hs hv, c_rSteepest H l id off ex hs hv⟩
  · refine ⟨[], 10, by simp, fun H id off ex hs => ?_⟩
    rw [← lsR_nil]
    exact ⟨c_SteepestE H l id off ex hs hn hv, c_rSteepestE H l id off ex hs hn hv⟩
/-- What a call leaves that returns a list of spans, which may be nil, and a number. -/
def spR (H : Heap) (n : Nat) (f g : Nat → Int) (e : Int) (v : AV) (h' : Heap) : Prop := v = .tuple [lsV H 2 n, .int .i64 e] ∧ h' = H ++ lsO n (avR (r2 f g) n)
theorem marks_both (l : List Str) (hn : (l.length : Int) < 1000000) : ∃ (n : Nat) (f g : Nat → Int) (e : Int), (n ≤ 1000 ∧ 0 ≤ e ∧ e ≤ 100) ∧ ∀ (H : Heap) (id off : Nat) (ex : Bool), rd H id off (l.length * 9) = some (l.flatMap Str.av) →
    ACalls Try.prog F.track_Marks [.agg [.slice id off l.length 9 ex]] H (spR H n f g e) ∧ ACalls Try.prog F.ref01_Marks [.agg [.slice id off l.length 9 ex]] H (spR H n f g e) := by
  by_cases hv : validL l
  · refine ⟨l.length + 1, mLo l, mHi l, 0, by have := hv.1; omega, fun H id off ex hs => ?_⟩
    have e : spR H (l.length + 1) (mLo l) (mHi l) 0 = fun v h' => v = .tuple [.slice H.length 0 (l.length + 1) 2 false, .int .i64 0] ∧ h' = H ++ [.cells (avR (r2 (mLo l) (mHi l)) (l.length + 1)) true] := by
      funext v h'; simp [spR, lsV, lsO]
    rw [e]
    exact ⟨c_Marks H l id off ex hs hv, c_rMarks H l id off ex hs hv⟩
  · refine ⟨0, mLo l, mHi l, 10, by omega, fun H id off ex hs => ?_⟩
    have e : spR H 0 (mLo l) (mHi l) 10 = fun v h' => v = .tuple [.nilslice, .int .i64 10] ∧ h' = H := by
      funext v h'; simp [spR, lsV, lsO]
    rw [e]
    exact ⟨c_MarksN H l id off ex hs hv hn, c_rMarksN H l id off ex hs hv hn⟩
end Go.Proofs
/- A memory of any form. -/
namespace Go.Proofs
open Go.Abs
attribute [local simp] AOp.den AOpd.ev lk cellsOf rd_new rd_new0 rd_zero rd_succ wr_new wr_new0 wr_zero wr_succ splice fillA binA scal sliceCells List.length_append argsT AV.sc scL AObj.sc resV getAll AR.get AOp.slots opdSlots opdsSlots partSlots eqAt at_new0 at_new set_new0 set_new wrap64
set_option linter.unusedSimpArgs false
set_option linter.unusedVariables false
theorem gen_ops {P : Program} {l : List AO} {K : St → Prop} {t : List (Nat × AV)} {h : Heap} (F : List (Nat × AV) → Heap → Prop) (hF : F t h) (hn : ∀ t h, F t h → EOps P l K t h) : EOps P l K t h := hn t h hF
end Go.Proofs
/- The law TrackMarks. -/
namespace Go.Proofs
open Go.Abs
attribute [local simp] AOp.den AOpd.ev lk cellsOf rd_new rd_new0 rd_zero rd_succ wr_new wr_new0 wr_zero wr_succ splice fillA binA scal sliceCells List.length_append argsT AV.sc scL AObj.sc resV getAll AR.get AOp.slots opdSlots opdsSlots partSlots eqAt at_new0 at_new set_new0 set_new wrap64
set_option linter.unusedSimpArgs false
set_option linter.unusedVariables false
theorem ls_r (H : Heap) {sz n : Nat} {cs : List AV} (hc : cs.length = n * sz) (G : Heap) : RAt (H ++ (lsO n cs ++ G)) sz (lsV H sz n) cs n := by
  have h := ((ls_at H hc).app G).l.r
  simpa using h
theorem iat_K {H : Heap} {v : AV} {xs : List Nat} (h : RAt H 1 v (avK xs) xs.length) : IAt H v (xs.map fun k : Nat => (k : Int)) := by
  unfold IAt
  rw [List.length_map]
  have : iv (xs.map fun k : Nat => (k : Int)) = avK xs := by simp [iv, avK]
  rw [this]; exact h
set_option maxHeartbeats 4000000 in
theorem c_lawTM (H : Heap) (l : List Str) (fr to at_ i : Int) (id off : Nat) (ex : Bool) (hs : rd H id off (l.length * 9) = some (l.flatMap Str.av))
    (b1 : (-9223372036854775808 : Int) ≤ fr ∧ fr ≤ 9223372036854775807) (b2 : (-9223372036854775808 : Int) ≤ to ∧ to ≤ 9223372036854775807) (b3 : (-9223372036854775808 : Int) ≤ at_ ∧ at_ ≤ 9223372036854775807) (b4 : (-9223372036854775808 : Int) ≤ i ∧ i ≤ 9223372036854775807) :
    ACalls Try.prog F.law01_TrackMarks [.agg [.slice id off l.length 9 ex], .int .i64 fr, .int .i64 to, .int .i64 at_, .int .i64 i] H (fun v _ => v = .bool true) := by
  refine acalls_of ok_law01_TrackMarks rfl fun hcl => ?_
  unfold ac_law01_TrackMarks
  simp only [argsT, Nat.zero_add, Nat.reduceAdd]
  have hid := rd_lt hs
  repeat (first|(with_reducible first|apply X1|apply X2|apply X3|apply X4|apply X5|apply X6|apply X7|apply X8|apply X9|apply Y1|apply Y2|apply Y3|apply Y4|apply Y5|apply Y6|apply Y7|apply Y8|apply Y9)|((with_reducible apply q_block_other);decide)|((with_reducible first|apply e_end|apply d_end);(simp;exact Red.rfl))|((first|((with_reducible apply O1);rfl)|((with_reducible apply O2);rfl)|((with_reducible apply P1);rfl)|((with_reducible apply P2);rfl)|((with_reducible apply P3);rfl)|((with_reducible apply P4);rfl)|((with_reducible apply P5);rfl));(simp (disch:=omega);exact Red.rfl);exact Red.rfl;(focus (first|(simp;done)|omega|(simp;omega))))|((with_reducible first|apply Z7|apply Z8|apply Z9);(simp (disch:=omega);exact Red.rfl))|((with_reducible first|apply Z1|apply Z2|apply Z3|apply Z4|apply Z5|apply Z6);(simp (disch:=omega);exact Red.rfl))|((with_reducible first|apply W1|apply W2|apply W3);(simp (disch:=omega);exact Red.rfl))|((with_reducible apply P6);rfl;(simp (disch:=omega);exact Red.rfl);exact Red.rfl;(focus (first|(simp [pr];done)|(simp [pr];omega))))|((with_reducible apply P7);rfl;(simp (disch:=omega);exact Red.rfl);exact Red.rfl;(focus (simp [repast, pr, AOp.sem];done))))
  (with_reducible apply e_call); (simp; exact Red.rfl); exact c_great _ _ _ _ _ (by simp; omega)
  rintro _ _ ⟨rfl, rfl⟩
  by_cases h20 : 20 < l.length
  · repeat (first|(with_reducible first|apply X1|apply X2|apply X3|apply X4|apply X5|apply X6|apply X7|apply X8|apply X9|apply Y1|apply Y2|apply Y3|apply Y4|apply Y5|apply Y6|apply Y7|apply Y8|apply Y9)|((with_reducible apply q_block_other);decide)|((with_reducible first|apply e_end|apply d_end);(simp;exact Red.rfl))|((first|((with_reducible apply O1);rfl)|((with_reducible apply O2);rfl)|((with_reducible apply P1);rfl)|((with_reducible apply P2);rfl)|((with_reducible apply P3);rfl)|((with_reducible apply P4);rfl)|((with_reducible apply P5);rfl));(simp (disch:=omega) [h20];exact Red.rfl);exact Red.rfl;(focus (first|(simp;done)|omega|(simp;omega))))|((with_reducible first|apply Z7|apply Z8|apply Z9);(simp (disch:=omega) [h20];exact Red.rfl))|((with_reducible first|apply Z1|apply Z2|apply Z3|apply Z4|apply Z5|apply Z6);(simp (disch:=omega) [h20];exact Red.rfl))|((with_reducible first|apply W1|apply W2|apply W3);(simp (disch:=omega) [h20];exact Red.rfl))|((with_reducible apply P6);rfl;(simp (disch:=omega) [h20];exact Red.rfl);exact Red.rfl;(focus (first|(simp [pr];done)|(simp [pr];omega))))|((with_reducible apply P7);rfl;(simp (disch:=omega) [h20];exact Red.rfl);exact Red.rfl;(focus (simp [repast, pr, AOp.sem];done))))
    refine q_drop (.inr rfl) (by simp; exact Red.rfl) (by simp) rfl
  · obtain ⟨e0, he0, k0⟩ := check_both l (by omega)
    obtain ⟨p1, q1, r1, s1, e1, he1, k1⟩ := drop_both l fr to (by omega)
    obtain ⟨p2, q2, e2, he2, k2⟩ := slope_both l i (by omega)
    obtain ⟨xs, e3, he3, k3⟩ := place_both l at_ (by omega)
    obtain ⟨ys, e4, he4, k4⟩ := steepest_both l (by omega)
    obtain ⟨n, f, g, e5, he5, k5⟩ := marks_both l (by omega)
    repeat (first|(with_reducible first|apply X1|apply X2|apply X3|apply X4|apply X5|apply X6|apply X7|apply X8|apply X9|apply Y1|apply Y2|apply Y3|apply Y4|apply Y5|apply Y6|apply Y7|apply Y8|apply Y9)|((with_reducible apply q_block_other);decide)|((with_reducible first|apply e_end|apply d_end);(simp;exact Red.rfl))|((first|((with_reducible apply O1);rfl)|((with_reducible apply O2);rfl)|((with_reducible apply P1);rfl)|((with_reducible apply P2);rfl)|((with_reducible apply P3);rfl)|((with_reducible apply P4);rfl)|((with_reducible apply P5);rfl));(simp (disch:=omega) [h20];exact Red.rfl);exact Red.rfl;(focus (first|(simp;done)|omega|(simp;omega))))|((with_reducible first|apply Z7|apply Z8|apply Z9);(simp (disch:=omega) [h20];exact Red.rfl))|((with_reducible first|apply Z1|apply Z2|apply Z3|apply Z4|apply Z5|apply Z6);(simp (disch:=omega) [h20];exact Red.rfl))|((with_reducible first|apply W1|apply W2|apply W3);(simp (disch:=omega) [h20];exact Red.rfl))|((with_reducible apply P6);rfl;(simp (disch:=omega) [h20];exact Red.rfl);exact Red.rfl;(focus (first|(simp [pr];done)|(simp [pr];omega))))|((with_reducible apply P7);rfl;(simp (disch:=omega) [h20];exact Red.rfl);exact Red.rfl;(focus (simp [repast, pr, AOp.sem];done))))
    (with_reducible apply e_call); (simp; exact Red.rfl); exact c_Twin _ l id off ex (by rw [rd_old _ hid]; exact hs) (by omega)
    rintro _ _ ⟨rfl, rfl⟩
    repeat (first|(with_reducible first|apply X1|apply X2|apply X3|apply X4|apply X5|apply X6|apply X7|apply X8|apply X9|apply Y1|apply Y2|apply Y3|apply Y4|apply Y5|apply Y6|apply Y7|apply Y8|apply Y9)|((with_reducible apply q_block_other);decide)|((with_reducible first|apply e_end|apply d_end);(simp;exact Red.rfl))|((first|((with_reducible apply O1);rfl)|((with_reducible apply O2);rfl)|((with_reducible apply P1);rfl)|((with_reducible apply P2);rfl)|((with_reducible apply P3);rfl)|((with_reducible apply P4);rfl)|((with_reducible apply P5);rfl));(simp (disch:=omega);exact Red.rfl);exact Red.rfl;(focus (first|(simp;done)|omega|(simp;omega))))|((with_reducible first|apply Z7|apply Z8|apply Z9);(simp (disch:=omega);exact Red.rfl))|((with_reducible first|apply Z1|apply Z2|apply Z3|apply Z4|apply Z5|apply Z6);(simp (disch:=omega);exact Red.rfl))|((with_reducible first|apply W1|apply W2|apply W3);(simp (disch:=omega);exact Red.rfl))|((with_reducible apply P6);rfl;(simp (disch:=omega);exact Red.rfl);exact Red.rfl;(focus (first|(simp [pr];done)|(simp [pr];omega))))|((with_reducible apply P7);rfl;(simp (disch:=omega);exact Red.rfl);exact Red.rfl;(focus (simp [repast, pr, AOp.sem];done))))
    have hlL : (l.flatMap Str.av).length = l.length * 9 := by rw [flat_eq]; exact (plain_str l).length _
    refine gen_ops (fun t X => ∃ q q11 : Nat, t = [(35, .agg [.slice q 0 l.length 9 false]), (1, .int .i64 fr), (2, .int .i64 to), (3, .int .i64 at_), (4, .int .i64 i), (5, .ptr H.length 0), (11, .ptr q11 0)] ∧ rd X id off (l.length * 9) = some (l.flatMap Str.av) ∧ rd X q 0 (l.length * 9) = some (l.flatMap Str.av) ∧ rd X H.length 0 1 = some [.slice id off l.length 9 ex] ∧ rd X q11 0 1 = some [.slice q 0 l.length 9 false]) ?_ ?_
    · refine ⟨H.length + 1, H.length + 2, rfl, by rw [rd_old _ hid]; exact hs, ?_, by simp, by simp⟩
      exact rd_full (b := true) (by simp [at_new, Nat.add_assoc]) hlL
    rintro _ X ⟨q, q11, rfl, hX, hXq, m5, m11⟩
    have hidX := rd_lt hX
    have hqX := rd_lt hXq
    have h5X := rd_lt m5
    have h11X := rd_lt m11
    (with_reducible apply e_call); (simp; exact Red.rfl); exact (k5 _ q 0 false hXq).1
    rintro _ _ ⟨rfl, rfl⟩
    repeat (first|(with_reducible first|apply X1|apply X2|apply X3|apply X4|apply X5|apply X6|apply X7|apply X8|apply X9|apply Y1|apply Y2|apply Y3|apply Y4|apply Y5|apply Y6|apply Y7|apply Y8|apply Y9)|((with_reducible apply q_block_other);decide)|((with_reducible first|apply e_end|apply d_end);(simp;exact Red.rfl))|((first|((with_reducible apply O1);rfl)|((with_reducible apply O2);rfl)|((with_reducible apply P1);rfl)|((with_reducible apply P2);rfl)|((with_reducible apply P3);rfl)|((with_reducible apply P4);rfl)|((with_reducible apply P5);rfl));(simp (disch:=omega) [rd_old _ h5X, m5, rd_old _ h11X, m11];exact Red.rfl);exact Red.rfl;(focus (first|(simp;done)|omega|(simp;omega))))|((with_reducible first|apply Z7|apply Z8|apply Z9);(simp (disch:=omega) [rd_old _ h5X, m5, rd_old _ h11X, m11];exact Red.rfl))|((with_reducible first|apply Z1|apply Z2|apply Z3|apply Z4|apply Z5|apply Z6);(simp (disch:=omega) [rd_old _ h5X, m5, rd_old _ h11X, m11];exact Red.rfl))|((with_reducible first|apply W1|apply W2|apply W3);(simp (disch:=omega) [rd_old _ h5X, m5, rd_old _ h11X, m11];exact Red.rfl))|((with_reducible apply P6);rfl;(simp (disch:=omega) [rd_old _ h5X, m5, rd_old _ h11X, m11];exact Red.rfl);exact Red.rfl;(focus (first|(simp [pr];done)|(simp [pr];omega))))|((with_reducible apply P7);rfl;(simp (disch:=omega) [rd_old _ h5X, m5, rd_old _ h11X, m11];exact Red.rfl);exact Red.rfl;(focus (simp [repast, pr, AOp.sem];done))))
    (with_reducible apply e_call); (simp; exact Red.rfl); exact (k5 _ id off ex (by rw [rd_old _ hidX]; exact hX)).2
    rintro _ _ ⟨rfl, rfl⟩
    repeat (first|(with_reducible first|apply X1|apply X2|apply X3|apply X4|apply X5|apply X6|apply X7|apply X8|apply X9|apply Y1|apply Y2|apply Y3|apply Y4|apply Y5|apply Y6|apply Y7|apply Y8|apply Y9)|((with_reducible apply q_block_other);decide)|((with_reducible first|apply e_end|apply d_end);(simp;exact Red.rfl))|((first|((with_reducible apply O1);rfl)|((with_reducible apply O2);rfl)|((with_reducible apply P1);rfl)|((with_reducible apply P2);rfl)|((with_reducible apply P3);rfl)|((with_reducible apply P4);rfl)|((with_reducible apply P5);rfl));(simp (disch:=omega) [rd_old _ h5X, m5, rd_old _ h11X, m11];exact Red.rfl);exact Red.rfl;(focus (first|(simp;done)|omega|(simp;omega))))|((with_reducible first|apply Z7|apply Z8|apply Z9);(simp (disch:=omega) [rd_old _ h5X, m5, rd_old _ h11X, m11];exact Red.rfl))|((with_reducible first|apply Z1|apply Z2|apply Z3|apply Z4|apply Z5|apply Z6);(simp (disch:=omega) [rd_old _ h5X, m5, rd_old _ h11X, m11];exact Red.rfl))|((with_reducible first|apply W1|apply W2|apply W3);(simp (disch:=omega) [rd_old _ h5X, m5, rd_old _ h11X, m11];exact Red.rfl))|((with_reducible apply P6);rfl;(simp (disch:=omega) [rd_old _ h5X, m5, rd_old _ h11X, m11];exact Red.rfl);exact Red.rfl;(focus (first|(simp [pr];done)|(simp [pr];omega))))|((with_reducible apply P7);rfl;(simp (disch:=omega) [rd_old _ h5X, m5, rd_old _ h11X, m11];exact Red.rfl);exact Red.rfl;(focus (simp [repast, pr, AOp.sem];done))))
    refine gen_ops (fun t Y => ∃ va vb : AV, t = [(47, .int .i64 to), (46, .int .i64 fr), (45, .agg [.slice q 0 l.length 9 false]), (1, .int .i64 fr), (2, .int .i64 to), (3, .int .i64 at_), (4, .int .i64 i), (5, .ptr H.length 0), (11, .ptr q11 0), (12, va), (13, .int .i64 e5), (14, vb), (15, .int .i64 e5)] ∧
      rd Y id off (l.length * 9) = some (l.flatMap Str.av) ∧ rd Y q 0 (l.length * 9) = some (l.flatMap Str.av) ∧ rd Y H.length 0 1 = some [.slice id off l.length 9 ex] ∧ rd Y q11 0 1 = some [.slice q 0 l.length 9 false] ∧ RAt Y 2 va (avR (r2 f g) n) n ∧ RAt Y 2 vb (avR (r2 f g) n) n) ?_ ?_
    · have hc : (avR (r2 f g) n).length = n * 2 := (plain_r2 f g).length n
      refine ⟨_, _, rfl, by rw [rd_old _ hidX]; exact hX, by rw [rd_old _ hqX]; exact hXq, by rw [rd_old _ h5X]; exact m5, by rw [rd_old _ h11X]; exact m11, ls_r X hc _, ?_⟩
      have := ls_r (X ++ lsO n (avR (r2 f g) n)) hc []
      simpa using this
    clear hX hXq m5 m11 hidX hqX h5X h11X
    rintro _ X ⟨va, vb, rfl, hX, hXq, m5, m11, hva, hvb⟩
    have hidX := rd_lt hX
    have hqX := rd_lt hXq
    have h5X := rd_lt m5
    have h11X := rd_lt m11
    (with_reducible apply e_call); (simp; exact Red.rfl); exact (k1 _ q 0 false hXq).1
    rintro _ hqh ⟨rfl, hqe⟩
    rw [hqe]; clear hqe hqh
    repeat (first|(with_reducible first|apply X1|apply X2|apply X3|apply X4|apply X5|apply X6|apply X7|apply X8|apply X9|apply Y1|apply Y2|apply Y3|apply Y4|apply Y5|apply Y6|apply Y7|apply Y8|apply Y9)|((with_reducible apply q_block_other);decide)|((with_reducible first|apply e_end|apply d_end);(simp;exact Red.rfl))|((first|((with_reducible apply O1);rfl)|((with_reducible apply O2);rfl)|((with_reducible apply P1);rfl)|((with_reducible apply P2);rfl)|((with_reducible apply P3);rfl)|((with_reducible apply P4);rfl)|((with_reducible apply P5);rfl));(simp (disch:=omega) [rd_old _ h5X, m5, rd_old _ h11X, m11];exact Red.rfl);exact Red.rfl;(focus (first|(simp;done)|omega|(simp;omega))))|((with_reducible first|apply Z7|apply Z8|apply Z9);(simp (disch:=omega) [rd_old _ h5X, m5, rd_old _ h11X, m11];exact Red.rfl))|((with_reducible first|apply Z1|apply Z2|apply Z3|apply Z4|apply Z5|apply Z6);(simp (disch:=omega) [rd_old _ h5X, m5, rd_old _ h11X, m11];exact Red.rfl))|((with_reducible first|apply W1|apply W2|apply W3);(simp (disch:=omega) [rd_old _ h5X, m5, rd_old _ h11X, m11];exact Red.rfl))|((with_reducible apply P6);rfl;(simp (disch:=omega) [rd_old _ h5X, m5, rd_old _ h11X, m11];exact Red.rfl);exact Red.rfl;(focus (first|(simp [pr];done)|(simp [pr];omega))))|((with_reducible apply P7);rfl;(simp (disch:=omega) [rd_old _ h5X, m5, rd_old _ h11X, m11];exact Red.rfl);exact Red.rfl;(focus (simp [repast, pr, AOp.sem];done))))
    (with_reducible apply e_call); (simp; exact Red.rfl); exact (k1 _ id off ex (by rw [rd_old _ hidX]; exact hX)).2
    rintro _ hqh ⟨rfl, hqe⟩
    rw [hqe]; clear hqe hqh
    repeat (first|(with_reducible first|apply X1|apply X2|apply X3|apply X4|apply X5|apply X6|apply X7|apply X8|apply X9|apply Y1|apply Y2|apply Y3|apply Y4|apply Y5|apply Y6|apply Y7|apply Y8|apply Y9)|((with_reducible apply q_block_other);decide)|((with_reducible first|apply e_end|apply d_end);(simp;exact Red.rfl))|((first|((with_reducible apply O1);rfl)|((with_reducible apply O2);rfl)|((with_reducible apply P1);rfl)|((with_reducible apply P2);rfl)|((with_reducible apply P3);rfl)|((with_reducible apply P4);rfl)|((with_reducible apply P5);rfl));(simp (disch:=omega) [rd_old _ h5X, m5, rd_old _ h11X, m11];exact Red.rfl);exact Red.rfl;(focus (first|(simp;done)|omega|(simp;omega))))|((with_reducible first|apply Z7|apply Z8|apply Z9);(simp (disch:=omega) [rd_old _ h5X, m5, rd_old _ h11X, m11];exact Red.rfl))|((with_reducible first|apply Z1|apply Z2|apply Z3|apply Z4|apply Z5|apply Z6);(simp (disch:=omega) [rd_old _ h5X, m5, rd_old _ h11X, m11];exact Red.rfl))|((with_reducible first|apply W1|apply W2|apply W3);(simp (disch:=omega) [rd_old _ h5X, m5, rd_old _ h11X, m11];exact Red.rfl))|((with_reducible apply P6);rfl;(simp (disch:=omega) [rd_old _ h5X, m5, rd_old _ h11X, m11];exact Red.rfl);exact Red.rfl;(focus (first|(simp [pr];done)|(simp [pr];omega))))|((with_reducible apply P7);rfl;(simp (disch:=omega) [rd_old _ h5X, m5, rd_old _ h11X, m11];exact Red.rfl);exact Red.rfl;(focus (simp [repast, pr, AOp.sem];done))))
    (with_reducible apply d_call); (simp; exact Red.rfl); exact (k0 _ q 0 false (by rw [rd_old _ hqX]; exact hXq)).1; (focus (first | (simp; done) | (simp; omega)))
    repeat (first|(with_reducible first|apply X1|apply X2|apply X3|apply X4|apply X5|apply X6|apply X7|apply X8|apply X9|apply Y1|apply Y2|apply Y3|apply Y4|apply Y5|apply Y6|apply Y7|apply Y8|apply Y9)|((with_reducible apply q_block_other);decide)|((with_reducible first|apply e_end|apply d_end);(simp;exact Red.rfl))|((first|((with_reducible apply O1);rfl)|((with_reducible apply O2);rfl)|((with_reducible apply P1);rfl)|((with_reducible apply P2);rfl)|((with_reducible apply P3);rfl)|((with_reducible apply P4);rfl)|((with_reducible apply P5);rfl));(simp (disch:=omega) [rd_old _ h5X, m5, rd_old _ h11X, m11];exact Red.rfl);exact Red.rfl;(focus (first|(simp;done)|omega|(simp;omega))))|((with_reducible first|apply Z7|apply Z8|apply Z9);(simp (disch:=omega) [rd_old _ h5X, m5, rd_old _ h11X, m11];exact Red.rfl))|((with_reducible first|apply Z1|apply Z2|apply Z3|apply Z4|apply Z5|apply Z6);(simp (disch:=omega) [rd_old _ h5X, m5, rd_old _ h11X, m11];exact Red.rfl))|((with_reducible first|apply W1|apply W2|apply W3);(simp (disch:=omega) [rd_old _ h5X, m5, rd_old _ h11X, m11];exact Red.rfl))|((with_reducible apply P6);rfl;(simp (disch:=omega) [rd_old _ h5X, m5, rd_old _ h11X, m11];exact Red.rfl);exact Red.rfl;(focus (first|(simp [pr];done)|(simp [pr];omega))))|((with_reducible apply P7);rfl;(simp (disch:=omega) [rd_old _ h5X, m5, rd_old _ h11X, m11];exact Red.rfl);exact Red.rfl;(focus (simp [repast, pr, AOp.sem];done))))
    (with_reducible apply d_call); (simp; exact Red.rfl); exact (k0 _ id off ex (by rw [rd_old _ hidX]; exact hX)).2; (focus (first | (simp; done) | (simp; omega)))
    repeat (first|(with_reducible first|apply X1|apply X2|apply X3|apply X4|apply X5|apply X6|apply X7|apply X8|apply X9|apply Y1|apply Y2|apply Y3|apply Y4|apply Y5|apply Y6|apply Y7|apply Y8|apply Y9)|((with_reducible apply q_block_other);decide)|((with_reducible first|apply e_end|apply d_end);(simp;exact Red.rfl))|((first|((with_reducible apply O1);rfl)|((with_reducible apply O2);rfl)|((with_reducible apply P1);rfl)|((with_reducible apply P2);rfl)|((with_reducible apply P3);rfl)|((with_reducible apply P4);rfl)|((with_reducible apply P5);rfl));(simp (disch:=omega) [rd_old _ h5X, m5, rd_old _ h11X, m11];exact Red.rfl);exact Red.rfl;(focus (first|(simp;done)|omega|(simp;omega))))|((with_reducible first|apply Z7|apply Z8|apply Z9);(simp (disch:=omega) [rd_old _ h5X, m5, rd_old _ h11X, m11];exact Red.rfl))|((with_reducible first|apply Z1|apply Z2|apply Z3|apply Z4|apply Z5|apply Z6);(simp (disch:=omega) [rd_old _ h5X, m5, rd_old _ h11X, m11];exact Red.rfl))|((with_reducible first|apply W1|apply W2|apply W3);(simp (disch:=omega) [rd_old _ h5X, m5, rd_old _ h11X, m11];exact Red.rfl))|((with_reducible apply P6);rfl;(simp (disch:=omega) [rd_old _ h5X, m5, rd_old _ h11X, m11];exact Red.rfl);exact Red.rfl;(focus (first|(simp [pr];done)|(simp [pr];omega))))|((with_reducible apply P7);rfl;(simp (disch:=omega) [rd_old _ h5X, m5, rd_old _ h11X, m11];exact Red.rfl);exact Red.rfl;(focus (simp [repast, pr, AOp.sem];done))))
    have hsa : ∀ k, va.sc (X.length + k) = true := fun k => RAt.sc hva (by omega)
    have hsb : ∀ k, vb.sc (X.length + k) = true := fun k => RAt.sc hvb (by omega)
    (with_reducible apply d_call); (simp; exact Red.rfl); exact c_r1SameSpans _ va vb f g n (hva.app _) (hvb.app _) (by omega); (focus (simp [hsa, hsb]))
    repeat (first|(with_reducible first|apply X1|apply X2|apply X3|apply X4|apply X5|apply X6|apply X7|apply X8|apply X9|apply Y1|apply Y2|apply Y3|apply Y4|apply Y5|apply Y6|apply Y7|apply Y8|apply Y9)|((with_reducible apply q_block_other);decide)|((with_reducible first|apply e_end|apply d_end);(simp;exact Red.rfl))|((first|((with_reducible apply O1);rfl)|((with_reducible apply O2);rfl)|((with_reducible apply P1);rfl)|((with_reducible apply P2);rfl)|((with_reducible apply P3);rfl)|((with_reducible apply P4);rfl)|((with_reducible apply P5);rfl));(simp (disch:=omega) [rd_old _ h5X, m5, rd_old _ h11X, m11];exact Red.rfl);exact Red.rfl;(focus (first|(simp;done)|omega|(simp;omega))))|((with_reducible first|apply Z7|apply Z8|apply Z9);(simp (disch:=omega) [rd_old _ h5X, m5, rd_old _ h11X, m11];exact Red.rfl))|((with_reducible first|apply Z1|apply Z2|apply Z3|apply Z4|apply Z5|apply Z6);(simp (disch:=omega) [rd_old _ h5X, m5, rd_old _ h11X, m11];exact Red.rfl))|((with_reducible first|apply W1|apply W2|apply W3);(simp (disch:=omega) [rd_old _ h5X, m5, rd_old _ h11X, m11];exact Red.rfl))|((with_reducible apply P6);rfl;(simp (disch:=omega) [rd_old _ h5X, m5, rd_old _ h11X, m11];exact Red.rfl);exact Red.rfl;(focus (first|(simp [pr];done)|(simp [pr];omega))))|((with_reducible apply P7);rfl;(simp (disch:=omega) [rd_old _ h5X, m5, rd_old _ h11X, m11];exact Red.rfl);exact Red.rfl;(focus (simp [repast, pr, AOp.sem];done))))
    (with_reducible apply e_call); (simp; exact Red.rfl); exact (k3 _ q 0 false (by rw [rd_old _ hqX]; exact hXq)).1
    rintro _ _ ⟨rfl, rfl⟩
    repeat (first|(with_reducible first|apply X1|apply X2|apply X3|apply X4|apply X5|apply X6|apply X7|apply X8|apply X9|apply Y1|apply Y2|apply Y3|apply Y4|apply Y5|apply Y6|apply Y7|apply Y8|apply Y9)|((with_reducible apply q_block_other);decide)|((with_reducible first|apply e_end|apply d_end);(simp;exact Red.rfl))|((first|((with_reducible apply O1);rfl)|((with_reducible apply O2);rfl)|((with_reducible apply P1);rfl)|((with_reducible apply P2);rfl)|((with_reducible apply P3);rfl)|((with_reducible apply P4);rfl)|((with_reducible apply P5);rfl));(simp (disch:=omega) [rd_old _ h5X, m5, rd_old _ h11X, m11];exact Red.rfl);exact Red.rfl;(focus (first|(simp;done)|omega|(simp;omega))))|((with_reducible first|apply Z7|apply Z8|apply Z9);(simp (disch:=omega) [rd_old _ h5X, m5, rd_old _ h11X, m11];exact Red.rfl))|((with_reducible first|apply Z1|apply Z2|apply Z3|apply Z4|apply Z5|apply Z6);(simp (disch:=omega) [rd_old _ h5X, m5, rd_old _ h11X, m11];exact Red.rfl))|((with_reducible first|apply W1|apply W2|apply W3);(simp (disch:=omega) [rd_old _ h5X, m5, rd_old _ h11X, m11];exact Red.rfl))|((with_reducible apply P6);rfl;(simp (disch:=omega) [rd_old _ h5X, m5, rd_old _ h11X, m11];exact Red.rfl);exact Red.rfl;(focus (first|(simp [pr];done)|(simp [pr];omega))))|((with_reducible apply P7);rfl;(simp (disch:=omega) [rd_old _ h5X, m5, rd_old _ h11X, m11];exact Red.rfl);exact Red.rfl;(focus (simp [repast, pr, AOp.sem];done))))
    (with_reducible apply e_call); (simp; exact Red.rfl); exact (k3 _ id off ex (by rw [rd_old _ hidX]; exact hX)).2
    rintro _ _ ⟨rfl, rfl⟩
    repeat (first|(with_reducible first|apply X1|apply X2|apply X3|apply X4|apply X5|apply X6|apply X7|apply X8|apply X9|apply Y1|apply Y2|apply Y3|apply Y4|apply Y5|apply Y6|apply Y7|apply Y8|apply Y9)|((with_reducible apply q_block_other);decide)|((with_reducible first|apply e_end|apply d_end);(simp;exact Red.rfl))|((first|((with_reducible apply O1);rfl)|((with_reducible apply O2);rfl)|((with_reducible apply P1);rfl)|((with_reducible apply P2);rfl)|((with_reducible apply P3);rfl)|((with_reducible apply P4);rfl)|((with_reducible apply P5);rfl));(simp (disch:=omega) [rd_old _ h5X, m5, rd_old _ h11X, m11];exact Red.rfl);exact Red.rfl;(focus (first|(simp;done)|omega|(simp;omega))))|((with_reducible first|apply Z7|apply Z8|apply Z9);(simp (disch:=omega) [rd_old _ h5X, m5, rd_old _ h11X, m11];exact Red.rfl))|((with_reducible first|apply Z1|apply Z2|apply Z3|apply Z4|apply Z5|apply Z6);(simp (disch:=omega) [rd_old _ h5X, m5, rd_old _ h11X, m11];exact Red.rfl))|((with_reducible first|apply W1|apply W2|apply W3);(simp (disch:=omega) [rd_old _ h5X, m5, rd_old _ h11X, m11];exact Red.rfl))|((with_reducible apply P6);rfl;(simp (disch:=omega) [rd_old _ h5X, m5, rd_old _ h11X, m11];exact Red.rfl);exact Red.rfl;(focus (first|(simp [pr];done)|(simp [pr];omega))))|((with_reducible apply P7);rfl;(simp (disch:=omega) [rd_old _ h5X, m5, rd_old _ h11X, m11];exact Red.rfl);exact Red.rfl;(focus (simp [repast, pr, AOp.sem];done))))
    refine gen_ops (fun t Y => ∃ vc vd : AV, t = [(105, .int .i64 i), (104, .agg [.slice q 0 l.length 9 false]), (4, .int .i64 i), (5, .ptr H.length 0), (11, .ptr q11 0), (13, .int .i64 e3), (15, .int .i64 e3), (22, vc), (23, vd)] ∧
      rd Y id off (l.length * 9) = some (l.flatMap Str.av) ∧ rd Y q 0 (l.length * 9) = some (l.flatMap Str.av) ∧ rd Y H.length 0 1 = some [.slice id off l.length 9 ex] ∧ rd Y q11 0 1 = some [.slice q 0 l.length 9 false] ∧ RAt Y 1 vc (avK xs) xs.length ∧ RAt Y 1 vd (avK xs) xs.length) ?_ ?_
    · have hc : (avK xs).length = xs.length * 1 := by rw [avK_length]; omega
      refine ⟨_, _, rfl, by rw [rd_old _ hidX]; exact hX, by rw [rd_old _ hqX]; exact hXq, by rw [rd_old _ h5X]; exact m5, by rw [rd_old _ h11X]; exact m11, ?_, ?_⟩
      · have := ls_r (X ++ [.cells [.int .i64 p1, .int .i64 q1] true, .cells [.int .i64 r1, .int .i64 s1] true, .cells [.int .i64 p1, .int .i64 q1] true, .cells [.int .i64 r1, .int .i64 s1] true]) hc (lsO xs.length (avK xs))
        simpa using this
      · have := ls_r (X ++ .cells [.int .i64 p1, .int .i64 q1] true :: .cells [.int .i64 r1, .int .i64 s1] true :: .cells [.int .i64 p1, .int .i64 q1] true :: .cells [.int .i64 r1, .int .i64 s1] true :: lsO xs.length (avK xs)) hc []
        simpa using this
    clear hX hXq m5 m11 hidX hqX h5X h11X hva hvb hsa hsb
    rintro _ X ⟨vc, vd, rfl, hX, hXq, m5, m11, hvc, hvd⟩
    have hidX := rd_lt hX
    have hqX := rd_lt hXq
    have h5X := rd_lt m5
    have h11X := rd_lt m11
    (with_reducible apply e_call); (simp; exact Red.rfl); exact (k2 _ q 0 false hXq).1
    rintro _ hqh ⟨rfl, hqe⟩
    rw [hqe]; clear hqe hqh
    repeat (first|(with_reducible first|apply X1|apply X2|apply X3|apply X4|apply X5|apply X6|apply X7|apply X8|apply X9|apply Y1|apply Y2|apply Y3|apply Y4|apply Y5|apply Y6|apply Y7|apply Y8|apply Y9)|((with_reducible apply q_block_other);decide)|((with_reducible first|apply e_end|apply d_end);(simp;exact Red.rfl))|((first|((with_reducible apply O1);rfl)|((with_reducible apply O2);rfl)|((with_reducible apply P1);rfl)|((with_reducible apply P2);rfl)|((with_reducible apply P3);rfl)|((with_reducible apply P4);rfl)|((with_reducible apply P5);rfl));(simp (disch:=omega) [rd_old _ h5X, m5, rd_old _ h11X, m11];exact Red.rfl);exact Red.rfl;(focus (first|(simp;done)|omega|(simp;omega))))|((with_reducible first|apply Z7|apply Z8|apply Z9);(simp (disch:=omega) [rd_old _ h5X, m5, rd_old _ h11X, m11];exact Red.rfl))|((with_reducible first|apply Z1|apply Z2|apply Z3|apply Z4|apply Z5|apply Z6);(simp (disch:=omega) [rd_old _ h5X, m5, rd_old _ h11X, m11];exact Red.rfl))|((with_reducible first|apply W1|apply W2|apply W3);(simp (disch:=omega) [rd_old _ h5X, m5, rd_old _ h11X, m11];exact Red.rfl))|((with_reducible apply P6);rfl;(simp (disch:=omega) [rd_old _ h5X, m5, rd_old _ h11X, m11];exact Red.rfl);exact Red.rfl;(focus (first|(simp [pr];done)|(simp [pr];omega))))|((with_reducible apply P7);rfl;(simp (disch:=omega) [rd_old _ h5X, m5, rd_old _ h11X, m11];exact Red.rfl);exact Red.rfl;(focus (simp [repast, pr, AOp.sem];done))))
    (with_reducible apply e_call); (simp; exact Red.rfl); exact (k2 _ id off ex (by rw [rd_old _ hidX]; exact hX)).2
    rintro _ hqh ⟨rfl, hqe⟩
    rw [hqe]; clear hqe hqh
    repeat (first|(with_reducible first|apply X1|apply X2|apply X3|apply X4|apply X5|apply X6|apply X7|apply X8|apply X9|apply Y1|apply Y2|apply Y3|apply Y4|apply Y5|apply Y6|apply Y7|apply Y8|apply Y9)|((with_reducible apply q_block_other);decide)|((with_reducible first|apply e_end|apply d_end);(simp;exact Red.rfl))|((first|((with_reducible apply O1);rfl)|((with_reducible apply O2);rfl)|((with_reducible apply P1);rfl)|((with_reducible apply P2);rfl)|((with_reducible apply P3);rfl)|((with_reducible apply P4);rfl)|((with_reducible apply P5);rfl));(simp (disch:=omega) [rd_old _ h5X, m5, rd_old _ h11X, m11];exact Red.rfl);exact Red.rfl;(focus (first|(simp;done)|omega|(simp;omega))))|((with_reducible first|apply Z7|apply Z8|apply Z9);(simp (disch:=omega) [rd_old _ h5X, m5, rd_old _ h11X, m11];exact Red.rfl))|((with_reducible first|apply Z1|apply Z2|apply Z3|apply Z4|apply Z5|apply Z6);(simp (disch:=omega) [rd_old _ h5X, m5, rd_old _ h11X, m11];exact Red.rfl))|((with_reducible first|apply W1|apply W2|apply W3);(simp (disch:=omega) [rd_old _ h5X, m5, rd_old _ h11X, m11];exact Red.rfl))|((with_reducible apply P6);rfl;(simp (disch:=omega) [rd_old _ h5X, m5, rd_old _ h11X, m11];exact Red.rfl);exact Red.rfl;(focus (first|(simp [pr];done)|(simp [pr];omega))))|((with_reducible apply P7);rfl;(simp (disch:=omega) [rd_old _ h5X, m5, rd_old _ h11X, m11];exact Red.rfl);exact Red.rfl;(focus (simp [repast, pr, AOp.sem];done))))
    (with_reducible apply e_call); (simp; exact Red.rfl); exact (k4 _ q 0 false (by rw [rd_old _ hqX]; exact hXq)).1
    rintro _ _ ⟨rfl, rfl⟩
    repeat (first|(with_reducible first|apply X1|apply X2|apply X3|apply X4|apply X5|apply X6|apply X7|apply X8|apply X9|apply Y1|apply Y2|apply Y3|apply Y4|apply Y5|apply Y6|apply Y7|apply Y8|apply Y9)|((with_reducible apply q_block_other);decide)|((with_reducible first|apply e_end|apply d_end);(simp;exact Red.rfl))|((first|((with_reducible apply O1);rfl)|((with_reducible apply O2);rfl)|((with_reducible apply P1);rfl)|((with_reducible apply P2);rfl)|((with_reducible apply P3);rfl)|((with_reducible apply P4);rfl)|((with_reducible apply P5);rfl));(simp (disch:=omega) [rd_old _ h5X, m5, rd_old _ h11X, m11];exact Red.rfl);exact Red.rfl;(focus (first|(simp;done)|omega|(simp;omega))))|((with_reducible first|apply Z7|apply Z8|apply Z9);(simp (disch:=omega) [rd_old _ h5X, m5, rd_old _ h11X, m11];exact Red.rfl))|((with_reducible first|apply Z1|apply Z2|apply Z3|apply Z4|apply Z5|apply Z6);(simp (disch:=omega) [rd_old _ h5X, m5, rd_old _ h11X, m11];exact Red.rfl))|((with_reducible first|apply W1|apply W2|apply W3);(simp (disch:=omega) [rd_old _ h5X, m5, rd_old _ h11X, m11];exact Red.rfl))|((with_reducible apply P6);rfl;(simp (disch:=omega) [rd_old _ h5X, m5, rd_old _ h11X, m11];exact Red.rfl);exact Red.rfl;(focus (first|(simp [pr];done)|(simp [pr];omega))))|((with_reducible apply P7);rfl;(simp (disch:=omega) [rd_old _ h5X, m5, rd_old _ h11X, m11];exact Red.rfl);exact Red.rfl;(focus (simp [repast, pr, AOp.sem];done))))
    (with_reducible apply e_call); (simp; exact Red.rfl); exact (k4 _ id off ex (by rw [rd_old _ hidX]; exact hX)).2
    rintro _ _ ⟨rfl, rfl⟩
    repeat (first|(with_reducible first|apply X1|apply X2|apply X3|apply X4|apply X5|apply X6|apply X7|apply X8|apply X9|apply Y1|apply Y2|apply Y3|apply Y4|apply Y5|apply Y6|apply Y7|apply Y8|apply Y9)|((with_reducible apply q_block_other);decide)|((with_reducible first|apply e_end|apply d_end);(simp;exact Red.rfl))|((first|((with_reducible apply O1);rfl)|((with_reducible apply O2);rfl)|((with_reducible apply P1);rfl)|((with_reducible apply P2);rfl)|((with_reducible apply P3);rfl)|((with_reducible apply P4);rfl)|((with_reducible apply P5);rfl));(simp (disch:=omega) [rd_old _ h5X, m5, rd_old _ h11X, m11];exact Red.rfl);exact Red.rfl;(focus (first|(simp;done)|omega|(simp;omega))))|((with_reducible first|apply Z7|apply Z8|apply Z9);(simp (disch:=omega) [rd_old _ h5X, m5, rd_old _ h11X, m11];exact Red.rfl))|((with_reducible first|apply Z1|apply Z2|apply Z3|apply Z4|apply Z5|apply Z6);(simp (disch:=omega) [rd_old _ h5X, m5, rd_old _ h11X, m11];exact Red.rfl))|((with_reducible first|apply W1|apply W2|apply W3);(simp (disch:=omega) [rd_old _ h5X, m5, rd_old _ h11X, m11];exact Red.rfl))|((with_reducible apply P6);rfl;(simp (disch:=omega) [rd_old _ h5X, m5, rd_old _ h11X, m11];exact Red.rfl);exact Red.rfl;(focus (first|(simp [pr];done)|(simp [pr];omega))))|((with_reducible apply P7);rfl;(simp (disch:=omega) [rd_old _ h5X, m5, rd_old _ h11X, m11];exact Red.rfl);exact Red.rfl;(focus (simp [repast, pr, AOp.sem];done))))
    refine gen_ops (fun t Y => ∃ (ve vf : AV) (a24 a25 : Nat), t = [(126, vd), (125, vc), (5, .ptr H.length 0), (11, .ptr q11 0), (13, .int .i64 e3), (15, .int .i64 e3), (18, .int .i64 e2), (21, .int .i64 e2), (22, vc), (23, vd), (24, .ptr a24 0), (25, .ptr a25 0), (26, ve), (27, .int .i64 e4), (28, vf), (29, .int .i64 e4)] ∧
      rd Y id off (l.length * 9) = some (l.flatMap Str.av) ∧ rd Y q 0 (l.length * 9) = some (l.flatMap Str.av) ∧ rd Y H.length 0 1 = some [.slice id off l.length 9 ex] ∧ rd Y q11 0 1 = some [.slice q 0 l.length 9 false] ∧ RAt Y 1 vc (avK xs) xs.length ∧ RAt Y 1 vd (avK xs) xs.length ∧ RAt Y 1 ve (avK ys) ys.length ∧ RAt Y 1 vf (avK ys) ys.length ∧ rd Y a24 0 2 = some [.int .i64 p2, .int .i64 q2] ∧ rd Y a25 0 2 = some [.int .i64 p2, .int .i64 q2]) ?_ ?_
    · have hc : (avK ys).length = ys.length * 1 := by rw [avK_length]; omega
      refine ⟨_, _, _, _, rfl, by rw [rd_old _ hidX]; exact hX, by rw [rd_old _ hqX]; exact hXq, by rw [rd_old _ h5X]; exact m5, by rw [rd_old _ h11X]; exact m11, hvc.app _, hvd.app _, ?_, ?_, by simp, by simp⟩
      · have := ls_r (X ++ [.cells [.int .i64 p2, .int .i64 q2] true, .cells [.int .i64 p2, .int .i64 q2] true]) hc (lsO ys.length (avK ys))
        simpa using this
      · have := ls_r (X ++ .cells [.int .i64 p2, .int .i64 q2] true :: .cells [.int .i64 p2, .int .i64 q2] true :: lsO ys.length (avK ys)) hc []
        simpa using this
    clear hX hXq m5 m11 hidX hqX h5X h11X hvc hvd
    rintro _ X ⟨ve, vf, a24, a25, rfl, hX, hXq, m5, m11, hvc, hvd, hve, hvf, m24, m25⟩
    have hidX := rd_lt hX
    have hqX := rd_lt hXq
    have h5X := rd_lt m5
    have h11X := rd_lt m11
    have h24X := rd_lt m24
    have h25X := rd_lt m25
    have l1 : ((xs.map fun k : Nat => (k : Int)).length : Int) < 1000000 := by rw [List.length_map]; omega
    have l2 : ((ys.map fun k : Nat => (k : Int)).length : Int) < 1000000 := by rw [List.length_map]; omega
    (with_reducible apply e_call); (simp; exact Red.rfl); exact c_r1SameInts _ vc vd _ (iat_K hvc) (iat_K hvd) l1
    rintro _ hqh ⟨rfl, hqe⟩
    rw [hqe]; clear hqe hqh
    repeat (first|(with_reducible first|apply X1|apply X2|apply X3|apply X4|apply X5|apply X6|apply X7|apply X8|apply X9|apply Y1|apply Y2|apply Y3|apply Y4|apply Y5|apply Y6|apply Y7|apply Y8|apply Y9)|((with_reducible apply q_block_other);decide)|((with_reducible first|apply e_end|apply d_end);(simp;exact Red.rfl))|((first|((with_reducible apply O1);rfl)|((with_reducible apply O2);rfl)|((with_reducible apply P1);rfl)|((with_reducible apply P2);rfl)|((with_reducible apply P3);rfl)|((with_reducible apply P4);rfl)|((with_reducible apply P5);rfl));(simp (disch:=omega) [m5, m11, m24, m25];exact Red.rfl);exact Red.rfl;(focus (first|(simp;done)|omega|(simp;omega))))|((with_reducible first|apply Z7|apply Z8|apply Z9);(simp (disch:=omega) [m5, m11, m24, m25];exact Red.rfl))|((with_reducible first|apply Z1|apply Z2|apply Z3|apply Z4|apply Z5|apply Z6);(simp (disch:=omega) [m5, m11, m24, m25];exact Red.rfl))|((with_reducible first|apply W1|apply W2|apply W3);(simp (disch:=omega) [m5, m11, m24, m25];exact Red.rfl))|((with_reducible apply P6);rfl;(simp (disch:=omega) [m5, m11, m24, m25];exact Red.rfl);exact Red.rfl;(focus (first|(simp [pr];done)|(simp [pr];omega))))|((with_reducible apply P7);rfl;(simp (disch:=omega) [m5, m11, m24, m25];exact Red.rfl);exact Red.rfl;(focus (simp [repast, pr, AOp.sem];done))))
    (with_reducible apply e_call); (simp; exact Red.rfl); exact c_r1SameInts _ ve vf _ (iat_K hve) (iat_K hvf) l2
    rintro _ hqh ⟨rfl, hqe⟩
    rw [hqe]; clear hqe hqh
    repeat (first|(with_reducible first|apply X1|apply X2|apply X3|apply X4|apply X5|apply X6|apply X7|apply X8|apply X9|apply Y1|apply Y2|apply Y3|apply Y4|apply Y5|apply Y6|apply Y7|apply Y8|apply Y9)|((with_reducible apply q_block_other);decide)|((with_reducible first|apply e_end|apply d_end);(simp;exact Red.rfl))|((first|((with_reducible apply O1);rfl)|((with_reducible apply O2);rfl)|((with_reducible apply P1);rfl)|((with_reducible apply P2);rfl)|((with_reducible apply P3);rfl)|((with_reducible apply P4);rfl)|((with_reducible apply P5);rfl));(simp (disch:=omega) [m5, m11, m24, m25];exact Red.rfl);exact Red.rfl;(focus (first|(simp;done)|omega|(simp;omega))))|((with_reducible first|apply Z7|apply Z8|apply Z9);(simp (disch:=omega) [m5, m11, m24, m25];exact Red.rfl))|((with_reducible first|apply Z1|apply Z2|apply Z3|apply Z4|apply Z5|apply Z6);(simp (disch:=omega) [m5, m11, m24, m25];exact Red.rfl))|((with_reducible first|apply W1|apply W2|apply W3);(simp (disch:=omega) [m5, m11, m24, m25];exact Red.rfl))|((with_reducible apply P6);rfl;(simp (disch:=omega) [m5, m11, m24, m25];exact Red.rfl);exact Red.rfl;(focus (first|(simp [pr];done)|(simp [pr];omega))))|((with_reducible apply P7);rfl;(simp (disch:=omega) [m5, m11, m24, m25];exact Red.rfl);exact Red.rfl;(focus (simp [repast, pr, AOp.sem];done))))
    (with_reducible apply e_call); (simp; exact Red.rfl); exact c_r1Same _ l q 0 id off false ex hXq hX (by omega)
    rintro _ hqh ⟨rfl, hqe⟩
    rw [hqe]; clear hqe hqh
    repeat (first|(with_reducible first|apply X1|apply X2|apply X3|apply X4|apply X5|apply X6|apply X7|apply X8|apply X9|apply Y1|apply Y2|apply Y3|apply Y4|apply Y5|apply Y6|apply Y7|apply Y8|apply Y9)|((with_reducible apply q_block_other);decide)|((with_reducible first|apply e_end|apply d_end);(simp;exact Red.rfl))|((first|((with_reducible apply O1);rfl)|((with_reducible apply O2);rfl)|((with_reducible apply P1);rfl)|((with_reducible apply P2);rfl)|((with_reducible apply P3);rfl)|((with_reducible apply P4);rfl)|((with_reducible apply P5);rfl));(simp (disch:=omega) [m5, m11, m24, m25];exact Red.rfl);exact Red.rfl;(focus (first|(simp;done)|omega|(simp;omega))))|((with_reducible first|apply Z7|apply Z8|apply Z9);(simp (disch:=omega) [m5, m11, m24, m25];exact Red.rfl))|((with_reducible first|apply Z1|apply Z2|apply Z3|apply Z4|apply Z5|apply Z6);(simp (disch:=omega) [m5, m11, m24, m25];exact Red.rfl))|((with_reducible first|apply W1|apply W2|apply W3);(simp (disch:=omega) [m5, m11, m24, m25];exact Red.rfl))|((with_reducible apply P6);rfl;(simp (disch:=omega) [m5, m11, m24, m25];exact Red.rfl);exact Red.rfl;(focus (first|(simp [pr];done)|(simp [pr];omega))))|((with_reducible apply P7);rfl;(simp (disch:=omega) [m5, m11, m24, m25];exact Red.rfl);exact Red.rfl;(focus (simp [repast, pr, AOp.sem];done))))
    exact q_stay (.inr rfl) (by simp; exact Red.rfl) rfl
end Go.Proofs
