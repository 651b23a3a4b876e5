/- Several texts as one. -/
import Derived.Test.YtjagjbelmonpmaaGH
import Derived.Test.YtjagjbelmonpmaaXY
import Derived.Test.YtjagjbelmonpmaaDD
import Derived.Test.YtjagjbelmonpmaaRunTrackAlive
/- Runs that are joined: what is told of them, and what measures leave. -/
namespace Go.Proofs
open Go.Abs
attribute [local simp] AOp.den AOpd.ev lk cellsOf rd_new rd_new0 rd_zero rd_succ wr_new wr_new0 wr_zero wr_succ splice fillA binA scal sliceCells List.length_append argsT AV.sc scL AObj.sc resV getAll AR.get AOp.slots opdSlots opdsSlots partSlots eqAt at_new0 at_new set_new0 set_new wrap64
set_option linter.unusedSimpArgs false
set_option linter.unusedVariables false
theorem strAt_app_l {a : List Str} (b : List Str) {i : Nat} (h : i < a.length) : strAt (a ++ b) i = strAt a i := by
  rw [strAt_eq (by simp; omega), strAt_eq h, List.getElem_append_left h]
theorem strAt_app_r (a : List Str) {b : List Str} {i : Nat} (h : i < b.length) : strAt (a ++ b) (a.length + i) = strAt b i := by
  rw [strAt_eq (by simp; omega), strAt_eq h, List.getElem_append_right (by omega)]
  simp
theorem okAt_iff {l : List Str} {i : Nat} : okAt l i ↔ i < l.length ∧ (strAt l i).ok ∧ (0 < i → (strAt l (i - 1)).id < (strAt l i).id) := by
  constructor
  · rintro ⟨h, h1, h2⟩
    refine ⟨h, by rw [strAt_eq h]; exact h1, fun h0 => ?_⟩
    rw [strAt_eq h, strAt_eq (show i - 1 < l.length by omega)]; exact h2 h0
  · rintro ⟨h, h1, h2⟩
    refine ⟨h, by rw [strAt_eq h] at h1; exact h1, fun h0 => ?_⟩
    have := h2 h0
    rw [strAt_eq h, strAt_eq (show i - 1 < l.length by omega)] at this; exact this
theorem valid_app {a b : List Str} (ha : validL a) (hb : validL b) (hl : a.length + b.length ≤ 12) (hid : lastId a < firstId b) : validL (a ++ b) := by
  refine ⟨by have := ha.1; simp; omega, fun i hi => okAt_iff.2 ⟨hi, ?_⟩⟩
  rw [List.length_append] at hi
  rcases Nat.lt_or_ge i a.length with h | h
  · have h1 := okAt_iff.1 (ha.2 i h)
    rw [strAt_app_l b h]
    refine ⟨h1.2.1, fun h0 => ?_⟩
    rw [strAt_app_l b (show i - 1 < a.length by omega)]; exact h1.2.2 h0
  · obtain ⟨q, rfl⟩ : ∃ q, i = a.length + q := ⟨i - a.length, by omega⟩
    have hq : q < b.length := by omega
    have h1 := okAt_iff.1 (hb.2 q hq)
    rw [strAt_app_r a hq]
    refine ⟨h1.2.1, fun h0 => ?_⟩
    rcases Nat.eq_zero_or_pos q with rfl | hq0
    · have ha1 := ha.1.1
      rw [Nat.add_zero, strAt_app_l b (show a.length - 1 < a.length by omega)]; exact hid
    · rw [show a.length + q - 1 = a.length + (q - 1) by omega, strAt_app_r a (show q - 1 < b.length by omega)]
      exact h1.2.2 hq0
theorem sumF_shift (f : Nat → Int) (a : Nat) : ∀ n, sumF f a n = sumF (fun j => f (a + j)) 0 n
  | 0 => rfl
  | n + 1 => by simp only [sumF, sumF_shift f a n, Nat.zero_add]
theorem sum_app_lo (k : Kind) (a b : List Str) : sumF (kLo k (a ++ b)) 0 (a.length + b.length) = sumF (kLo k a) 0 a.length + sumF (kLo k b) 0 b.length := by
  rw [sumF_add, Nat.zero_add, sumF_shift _ a.length]
  congr 1
  · exact sumF_congr fun j hj => by rw [Nat.zero_add, kLo, kLo, strAt_app_l b hj]
  · exact sumF_congr fun j hj => by rw [Nat.zero_add, kLo, kLo, strAt_app_r a hj]
theorem sum_app_hi (k : Kind) (a b : List Str) : sumF (kHi k (a ++ b)) 0 (a.length + b.length) = sumF (kHi k a) 0 a.length + sumF (kHi k b) 0 b.length := by
  rw [sumF_add, Nat.zero_add, sumF_shift _ a.length]
  congr 1
  · exact sumF_congr fun j hj => by rw [Nat.zero_add, kHi, kHi, strAt_app_l b hj]
  · exact sumF_congr fun j hj => by rw [Nat.zero_add, kHi, kHi, strAt_app_r a hj]
theorem ok_app {n m : Nat} {ms : List Ms} (h : okMs n ms) : okMs (n + m) ms := ⟨h.1, fun i hi => by have := h.2 i hi; simp only [Ms.ok] at this ⊢; omega⟩
theorem sat_restrict {k : Kind} {a b : List Str} {ms : List Ms} {x : Nat → Int} (h : SatK k (a ++ b) ms x) : SatK k a ms x :=
  ⟨fun j hj => by have := h.1 j (by simp; omega); rwa [kLo, kHi, strAt_app_l b hj] at this, h.2⟩
/-- A truth of the first run that goes on in the second one. -/
def extX (n : Nat) (x s : Nat → Int) (i : Nat) : Int := if i ≤ n then x i else x n + sumF s 0 (i - n)
theorem extX_at {n : Nat} {x s : Nat → Int} (q : Nat) : extX n x s (n + q) = x n + sumF s 0 q := by
  unfold extX
  split
  · obtain rfl : q = 0 := by omega
    simp [sumF]
  · rw [show n + q - n = q by omega]
theorem extX_le {n : Nat} {x s : Nat → Int} {i : Nat} (h : i ≤ n) : extX n x s i = x i := if_pos h
theorem sat_extend {k : Kind} {a b : List Str} {ms : List Ms} {x s : Nat → Int} (hm : ∀ i (h : i < ms.length), ms[i].ok a.length) (h : SatK k a ms x) (hs : ∀ j, j < b.length → kLo k b j ≤ s j ∧ s j ≤ kHi k b j) : SatK k (a ++ b) ms (extX a.length x s) := by
  refine ⟨fun j hj => ?_, fun i hi hk => ?_⟩
  · rw [List.length_append] at hj
    rcases Nat.lt_or_ge j a.length with hja | hja
    · rw [extX_le (show j + 1 ≤ a.length by omega), extX_le (show j ≤ a.length by omega), kLo, kHi, strAt_app_l b hja]
      exact h.1 j hja
    · obtain ⟨q, rfl⟩ : ∃ q, j = a.length + q := ⟨j - a.length, by omega⟩
      have hq : q < b.length := by omega
      rw [Nat.add_assoc, extX_at, extX_at, kLo, kHi, strAt_app_r a hq]
      have := hs q hq
      simp only [sumF, Nat.zero_add, kLo, kHi] at this ⊢
      omega
  · have ho := hm i hi
    simp only [Ms.ok] at ho
    rw [extX_le (show ms[i].t.toNat ≤ a.length by omega), extX_le (show ms[i].f.toNat ≤ a.length by omega)]
    exact h.2 i hi hk
theorem good_app {k : Kind} (hk : k.OK) {a b : List Str} {ms : List Ms} (hb : validL b) (hm : ∀ i (h : i < ms.length), ms[i].ok a.length) : goodK k (a ++ b) ms ↔ goodK k a ms := by
  have hm2 : ∀ i (h : i < ms.length), ms[i].ok (a ++ b).length := fun i h => by have := hm i h; simp only [Ms.ok, List.length_append] at this ⊢; omega
  refine ⟨fun hg => good_of_satM hm (sat_restrict (row_sat hm2 hg (i := 0) (by omega))), fun hg => good_of_satM hm2 (sat_extend (s := kLo k b) hm (row_sat hm hg (i := 0) (by omega)) fun j hj => ?_)⟩
  have := hk.bd _ (okAt_iff.1 (hb.2 j hj)).2.1
  simp only [kLo, kHi]; omega
theorem close_app {k : Kind} (hk : k.OK) {a b : List Str} {ms : List Ms} (ha : validL a) (hb : validL b) (hab : validL (a ++ b)) (hm : ∀ i (h : i < ms.length), ms[i].ok a.length) (hg : goodK k a ms) {i j : Nat} (hi : i ≤ a.length) (hj : j ≤ a.length) :
    closeK k (a ++ b) ms i j = closeK k a ms i j := by
  have hm2 : ∀ i (h : i < ms.length), ms[i].ok (a ++ b).length := fun i h => by have := hm i h; simp only [Ms.ok, List.length_append] at this ⊢; omega
  have hg2 := (good_app hk hb hm).2 hg
  have hi2 : i ≤ (a ++ b).length := by simp; omega
  have hj2 : j ≤ (a ++ b).length := by simp; omega
  have d1 := closeK_diag hk ha hm hg hi
  have d2 := closeK_diag hk hab hm2 hg2 hi2
  have h1 := (closeK_sat hm).2 (sat_restrict (row_sat hm2 hg2 hi2)) i j hi hj
  have h2 := (closeK_sat hm2).2 (sat_extend (s := kLo k b) hm (row_sat hm hg hi) fun j hj => by
    have := hk.bd _ (okAt_iff.1 (hb.2 j hj)).2.1
    simp only [kLo, kHi]; omega) i j hi2 hj2
  rw [extX_le hi, extX_le hj] at h2
  omega
theorem close_app_r {k : Kind} (hk : k.OK) {a b : List Str} {ms : List Ms} (hb : validL b) (hab : validL (a ++ b)) (hm : ∀ i (h : i < ms.length), ms[i].ok a.length) (hg : goodK k a ms) {q : Nat} (hq : q < b.length) :
    closeK k (a ++ b) ms (a.length + q) (a.length + q + 1) = kHi k b q ∧ closeK k (a ++ b) ms (a.length + q + 1) (a.length + q) = -kLo k b q := by
  have hm2 : ∀ i (h : i < ms.length), ms[i].ok (a ++ b).length := fun i h => by have := hm i h; simp only [Ms.ok, List.length_append] at this ⊢; omega
  have hg2 := (good_app hk hb hm).2 hg
  have hi : a.length + q ≤ (a ++ b).length := by simp; omega
  have hj : a.length + q + 1 ≤ (a ++ b).length := by simp; omega
  have hlt : a.length + q < (a ++ b).length := by simp; omega
  have d1 := closeK_diag hk hab hm2 hg2 hi
  have d2 := closeK_diag hk hab hm2 hg2 hj
  have bd : ∀ j, j < b.length → kLo k b j ≤ kHi k b j := fun j hj => by
    have := hk.bd _ (okAt_iff.1 (hb.2 j hj)).2.1
    simp only [kLo, kHi]; omega
  have e1 : kLo k (a ++ b) (a.length + q) = kLo k b q := by rw [kLo, kLo, strAt_app_r a hq]
  have e2 : kHi k (a ++ b) (a.length + q) = kHi k b q := by rw [kHi, kHi, strAt_app_r a hq]
  have s1 := (row_sat hm2 hg2 hi).1 _ hlt
  have s2 := (row_sat hm2 hg2 hj).1 _ hlt
  have t1 := (closeK_sat hm2).2 (sat_extend (s := kHi k b) hm (row_sat hm hg (i := 0) (by omega)) fun j hj => ⟨bd j hj, Int.le_refl _⟩) _ _ hi hj
  have t2 := (closeK_sat hm2).2 (sat_extend (s := kLo k b) hm (row_sat hm hg (i := 0) (by omega)) fun j hj => ⟨Int.le_refl _, bd j hj⟩) _ _ hj hi
  rw [Nat.add_assoc, extX_at, extX_at] at t1 t2
  simp only [sumF, Nat.zero_add, ← Nat.add_assoc] at t1 t2
  rw [e1, e2] at s1 s2
  omega
theorem left_app {a b : List Str} {ms : List Ms} (ha : validL a) (hb : validL b) (hab : validL (a ++ b)) (hm : ∀ i (h : i < ms.length), ms[i].ok a.length) (hL : goodK kLong a ms) (hF : goodK kFall a ms) : listS (lefS (a ++ b) ms) (a ++ b).length = listS (lefS a ms) a.length ++ b := by
  have hl : ∀ j, j < a.length → lefS (a ++ b) ms j = lefS a ms j := fun j hj => by
    rw [lef_eq (show j < (a ++ b).length by simp; omega), lef_eq hj, strAt_app_l b hj, close_app kLong_ok ha hb hab hm hL (by omega) (by omega), close_app kLong_ok ha hb hab hm hL (by omega) (by omega), close_app kFall_ok ha hb hab hm hF (by omega) (by omega), close_app kFall_ok ha hb hab hm hF (by omega) (by omega)]
  have hr : ∀ q, q < b.length → lefS (a ++ b) ms (a.length + q) = strAt b q := fun q hq => by
    rw [lef_eq (show a.length + q < (a ++ b).length by simp; omega), strAt_app_r a hq, (close_app_r kLong_ok hb hab hm hL hq).1, (close_app_r kLong_ok hb hab hm hL hq).2, (close_app_r kFall_ok hb hab hm hF hq).1, (close_app_r kFall_ok hb hab hm hF hq).2]
    simp [putL, putF, kLo, kHi, kLong, kFall]
  rw [listS, List.length_append, List.range_add, List.map_append, List.map_map]
  congr 1
  · exact List.map_congr_left fun j hj => hl j (List.mem_range.1 hj)
  · exact (List.map_congr_left fun j hj => hr j (List.mem_range.1 hj)).trans (listS_str b)
theorem left_len (a : List Str) (ms : List Ms) : (listS (lefS a ms) a.length).length = a.length := listS_length _ _
theorem left_last {a : List Str} {ms : List Ms} (ha : validL a) : lastId (listS (lefS a ms) a.length) = lastId a := by
  have h1 := ha.1.1
  rw [lastId, left_len, listS_get _ (show a.length - 1 < a.length by omega), lef_eq (show a.length - 1 < a.length by omega)]
  rfl
end Go.Proofs
/- The law TrackJoined. -/
namespace Go.Proofs
open Go.Abs
attribute [local simp] AOp.den AOpd.ev lk cellsOf rd_new rd_new0 rd_zero rd_succ wr_new wr_new0 wr_zero wr_succ splice fillA binA scal sliceCells List.length_append argsT AV.sc scL AObj.sc resV getAll AR.get AOp.slots opdSlots opdsSlots partSlots eqAt at_new0 at_new set_new0 set_new wrap64
set_option linter.unusedSimpArgs false
set_option linter.unusedVariables false
theorem c_aliveJ (H : Heap) : ACalls Try.prog F.law01_alive [] H (fun v h => v = .bool true ∧ h = H) := Try.true35 H
theorem c_ready (H : Heap) (l : List Str) (id off : Nat) (ex : Bool) (hs : rd H id off (l.length * 9) = some (l.flatMap Str.av)) :
    ACalls Try.prog F.law01_ready [.agg [.slice id off l.length 9 ex]] H (fun v h' => h' = H ∧ ∃ b : Bool, v = .bool b ∧ (b = true ↔ validL l)) := by
  refine acalls_of ok_law01_ready rfl fun hcl => ?_
  unfold ac_law01_ready
  simp only [argsT, Nat.zero_add, Nat.reduceAdd]
  have hid := rd_lt hs
  repeat (first|(with_reducible first|apply X1|apply X2|apply X3|apply X4|apply X5|apply X6|apply X7|apply X8|apply X9|apply Y1|apply Y2|apply Y3|apply Y4|apply Y5|apply Y6|apply Y7|apply Y8|apply Y9)|((with_reducible apply q_block_other);decide)|((with_reducible first|apply e_end|apply d_end);(simp;exact Red.rfl))|((first|((with_reducible apply O1);rfl)|((with_reducible apply O2);rfl)|((with_reducible apply P1);rfl)|((with_reducible apply P2);rfl)|((with_reducible apply P3);rfl)|((with_reducible apply P4);rfl)|((with_reducible apply P5);rfl));(simp (disch:=omega);exact Red.rfl);exact Red.rfl;(focus (first|(simp;done)|omega|(simp;omega))))|((with_reducible first|apply Z7|apply Z8|apply Z9);(simp (disch:=omega);exact Red.rfl))|((with_reducible first|apply Z1|apply Z2|apply Z3|apply Z4|apply Z5|apply Z6);(simp (disch:=omega);exact Red.rfl))|((with_reducible first|apply W1|apply W2|apply W3);(simp (disch:=omega);exact Red.rfl))|((with_reducible apply P6);rfl;(simp (disch:=omega);exact Red.rfl);exact Red.rfl;(focus (first|(simp [pr];done)|(simp [pr];omega))))|((with_reducible apply P7);rfl;(simp (disch:=omega);exact Red.rfl);exact Red.rfl;(focus (simp [repast, pr, AOp.sem];done))))
  (with_reducible apply e_call); (simp; exact Red.rfl); exact c_great _ _ _ _ _ (by simp; omega)
  rintro _ _ ⟨rfl, rfl⟩
  by_cases h20 : 20 < l.length
  · repeat (first|(with_reducible first|apply X1|apply X2|apply X3|apply X4|apply X5|apply X6|apply X7|apply X8|apply X9|apply Y1|apply Y2|apply Y3|apply Y4|apply Y5|apply Y6|apply Y7|apply Y8|apply Y9)|((with_reducible apply q_block_other);decide)|((with_reducible first|apply e_end|apply d_end);(simp;exact Red.rfl))|((first|((with_reducible apply O1);rfl)|((with_reducible apply O2);rfl)|((with_reducible apply P1);rfl)|((with_reducible apply P2);rfl)|((with_reducible apply P3);rfl)|((with_reducible apply P4);rfl)|((with_reducible apply P5);rfl));(simp (disch:=omega) [h20];exact Red.rfl);exact Red.rfl;(focus (first|(simp;done)|omega|(simp;omega))))|((with_reducible first|apply Z7|apply Z8|apply Z9);(simp (disch:=omega) [h20];exact Red.rfl))|((with_reducible first|apply Z1|apply Z2|apply Z3|apply Z4|apply Z5|apply Z6);(simp (disch:=omega) [h20];exact Red.rfl))|((with_reducible first|apply W1|apply W2|apply W3);(simp (disch:=omega) [h20];exact Red.rfl))|((with_reducible apply P6);rfl;(simp (disch:=omega) [h20];exact Red.rfl);exact Red.rfl;(focus (first|(simp [pr];done)|(simp [pr];omega))))|((with_reducible apply P7);rfl;(simp (disch:=omega) [h20];exact Red.rfl);exact Red.rfl;(focus (simp [repast, pr, AOp.sem];done))))
    refine q_drop (.inr rfl) (by simp; exact Red.rfl) (by simp) ⟨rfl, false, rfl, ?_⟩
    simp [validL]; omega
  · repeat (first|(with_reducible first|apply X1|apply X2|apply X3|apply X4|apply X5|apply X6|apply X7|apply X8|apply X9|apply Y1|apply Y2|apply Y3|apply Y4|apply Y5|apply Y6|apply Y7|apply Y8|apply Y9)|((with_reducible apply q_block_other);decide)|((with_reducible first|apply e_end|apply d_end);(simp;exact Red.rfl))|((first|((with_reducible apply O1);rfl)|((with_reducible apply O2);rfl)|((with_reducible apply P1);rfl)|((with_reducible apply P2);rfl)|((with_reducible apply P3);rfl)|((with_reducible apply P4);rfl)|((with_reducible apply P5);rfl));(simp (disch:=omega) [h20];exact Red.rfl);exact Red.rfl;(focus (first|(simp;done)|omega|(simp;omega))))|((with_reducible first|apply Z7|apply Z8|apply Z9);(simp (disch:=omega) [h20];exact Red.rfl))|((with_reducible first|apply Z1|apply Z2|apply Z3|apply Z4|apply Z5|apply Z6);(simp (disch:=omega) [h20];exact Red.rfl))|((with_reducible first|apply W1|apply W2|apply W3);(simp (disch:=omega) [h20];exact Red.rfl))|((with_reducible apply P6);rfl;(simp (disch:=omega) [h20];exact Red.rfl);exact Red.rfl;(focus (first|(simp [pr];done)|(simp [pr];omega))))|((with_reducible apply P7);rfl;(simp (disch:=omega) [h20];exact Red.rfl);exact Red.rfl;(focus (simp [repast, pr, AOp.sem];done))))
    (with_reducible apply e_call); (simp; exact Red.rfl); exact c_rTrack _ l id off ex (by rw [rd_old _ hid]; exact hs) (by omega)
    rintro _ _ ⟨rfl, b, rfl, hb⟩
    repeat (first|(with_reducible first|apply X1|apply X2|apply X3|apply X4|apply X5|apply X6|apply X7|apply X8|apply X9|apply Y1|apply Y2|apply Y3|apply Y4|apply Y5|apply Y6|apply Y7|apply Y8|apply Y9)|((with_reducible apply q_block_other);decide)|((with_reducible first|apply e_end|apply d_end);(simp;exact Red.rfl))|((first|((with_reducible apply O1);rfl)|((with_reducible apply O2);rfl)|((with_reducible apply P1);rfl)|((with_reducible apply P2);rfl)|((with_reducible apply P3);rfl)|((with_reducible apply P4);rfl)|((with_reducible apply P5);rfl));(simp (disch:=omega) [h20];exact Red.rfl);exact Red.rfl;(focus (first|(simp;done)|omega|(simp;omega))))|((with_reducible first|apply Z7|apply Z8|apply Z9);(simp (disch:=omega) [h20];exact Red.rfl))|((with_reducible first|apply Z1|apply Z2|apply Z3|apply Z4|apply Z5|apply Z6);(simp (disch:=omega) [h20];exact Red.rfl))|((with_reducible first|apply W1|apply W2|apply W3);(simp (disch:=omega) [h20];exact Red.rfl))|((with_reducible apply P6);rfl;(simp (disch:=omega) [h20];exact Red.rfl);exact Red.rfl;(focus (first|(simp [pr];done)|(simp [pr];omega))))|((with_reducible apply P7);rfl;(simp (disch:=omega) [h20];exact Red.rfl);exact Red.rfl;(focus (simp [repast, pr, AOp.sem];done))))
    exact q_drop (.inr rfl) (by simp; exact Red.rfl) (by simp) ⟨rfl, b, rfl, hb⟩

theorem c_span (H : Heap) (a b : Int) : ACalls Try.prog F.law01_span [.int .i64 a, .int .i64 b] H (fun v h' => v = .agg [.int .i64 a, .int .i64 b] ∧ h' = H) := by
  refine acalls_of ok_law01_span rfl fun hcl => ?_
  unfold ac_law01_span
  simp only [argsT, Nat.zero_add, Nat.reduceAdd]
  repeat (first|(with_reducible first|apply X1|apply X2|apply X3|apply X4|apply X5|apply X6|apply X7|apply X8|apply X9|apply Y1|apply Y2|apply Y3|apply Y4|apply Y5|apply Y6|apply Y7|apply Y8|apply Y9)|((with_reducible apply q_block_other);decide)|((with_reducible first|apply e_end|apply d_end);(simp;exact Red.rfl))|((first|((with_reducible apply O1);rfl)|((with_reducible apply O2);rfl)|((with_reducible apply P1);rfl)|((with_reducible apply P2);rfl)|((with_reducible apply P3);rfl)|((with_reducible apply P4);rfl)|((with_reducible apply P5);rfl));(simp (disch:=omega);exact Red.rfl);exact Red.rfl;(focus (first|(simp;done)|omega|(simp;omega))))|((with_reducible first|apply Z7|apply Z8|apply Z9);(simp (disch:=omega);exact Red.rfl))|((with_reducible first|apply Z1|apply Z2|apply Z3|apply Z4|apply Z5|apply Z6);(simp (disch:=omega);exact Red.rfl))|((with_reducible first|apply W1|apply W2|apply W3);(simp (disch:=omega);exact Red.rfl))|((with_reducible apply P6);rfl;(simp (disch:=omega);exact Red.rfl);exact Red.rfl;(focus (first|(simp [pr];done)|(simp [pr];omega))))|((with_reducible apply P7);rfl;(simp (disch:=omega);exact Red.rfl);exact Red.rfl;(focus (simp [repast, pr, AOp.sem];done))))
  refine q_drop (.inr rfl) (by simp; exact Red.rfl) (by simp) ⟨rfl, rfl⟩


theorem jnR_eq' {H : Heap} {a b : List Str} {v : AV} {h' : Heap} (h : jnR H a b v h') : v = .tuple [.agg [lsV H 9 (joinL a b).length], .int .i64 (joinE a b)] ∧ h' = H ++ lsO (joinL a b).length ((joinL a b).flatMap Str.av) := h
theorem c_JoinB (H : Heap) (a b : List Str) (id1 o1 id2 o2 : Nat) (e1 e2 : Bool) (e : Int) (ha : rd H id1 o1 (a.length * 9) = some (a.flatMap Str.av)) (hb : rd H id2 o2 (b.length * 9) = some (b.flatMap Str.av)) (hna : (a.length : Int) < 1000000) (hnb : (b.length : Int) < 1000000) (he : joinE a b = e) (h0 : e ≠ 0) :
    ACalls Try.prog F.track_Join [.agg [.slice id1 o1 a.length 9 e1], .agg [.slice id2 o2 b.length 9 e2]] H (fun v h' => v = .tuple [.agg [.nilslice], .int .i64 e] ∧ h' = H) :=
  (c_Join H a b id1 o1 id2 o2 e1 e2 ha hb hna hnb).mono fun v h' h => by
    have := jnR_eq' h
    have hl : joinL a b = [] := by rw [joinL, if_neg (by rw [he]; exact h0)]
    rw [hl, he] at this
    simpa [lsV, lsO] using this
theorem c_JoinG (H : Heap) (a b : List Str) (id1 o1 id2 o2 : Nat) (e1 e2 : Bool) (ha : rd H id1 o1 (a.length * 9) = some (a.flatMap Str.av)) (hb : rd H id2 o2 (b.length * 9) = some (b.flatMap Str.av)) (hva : validL a) (hvb : validL b) (h12 : ¬ 12 < a.length + b.length) (hid : ¬ firstId b ≤ lastId a) :
    ACalls Try.prog F.track_Join [.agg [.slice id1 o1 a.length 9 e1], .agg [.slice id2 o2 b.length 9 e2]] H (fun v h' => v = .tuple [.agg [.slice H.length 0 (a.length + b.length) 9 false], .int .i64 0] ∧ h' = H ++ [.cells ((a ++ b).flatMap Str.av) true]) :=
  (c_Join H a b id1 o1 id2 o2 e1 e2 ha hb (by have := hva.1; omega) (by have := hvb.1; omega)).mono fun v h' h => by
    have := jnR_eq' h
    have hE : ¬ (¬ validL a ∨ ¬ validL b) := by simp [hva, hvb]
    have he : joinE a b = 0 := by rw [joinE, if_neg hE, if_neg h12, if_neg hid]
    have hl : joinL a b = a ++ b := by rw [joinL, if_pos he]
    have hn : ¬ a.length + b.length = 0 := by have := hva.1; omega
    rw [hl, he] at this
    simpa only [lsV, lsO, List.length_append, if_neg hn] using this
set_option maxHeartbeats 4000000 in
theorem c_lawTJ (H : Heap) (a b : List Str) (ms : List Ms) (id off id2 off2 mid moff : Nat) (ex ex2 mex : Bool) (ha : rd H id off (a.length * 9) = some (a.flatMap Str.av)) (hb : rd H id2 off2 (b.length * 9) = some (b.flatMap Str.av))
    (hm : rd H mid moff (ms.length * 5) = some (ms.flatMap Ms.av)) (hn : (ms.length : Int) ≤ 9223372036854775807) (hk : ∀ i (h : i < ms.length), 0 ≤ ms[i].k ∧ ms[i].k ≤ 255) :
    ACalls Try.prog F.law01_TrackJoined [.agg [.slice id off a.length 9 ex], .agg [.slice id2 off2 b.length 9 ex2], .slice mid moff ms.length 5 mex] H (fun v _ => v = .bool true) := by
  refine acalls_of ok_law01_TrackJoined rfl fun hcl => ?_
  unfold ac_law01_TrackJoined
  simp only [argsT, Nat.zero_add, Nat.reduceAdd]
  have hid := rd_lt ha
  have hid2 := rd_lt hb
  have hmid := rd_lt hm
  repeat (first|(with_reducible first|apply X1|apply X2|apply X3|apply X4|apply X5|apply X6|apply X7|apply X8|apply X9|apply Y1|apply Y2|apply Y3|apply Y4|apply Y5|apply Y6|apply Y7|apply Y8|apply Y9)|((with_reducible apply q_block_other);decide)|((with_reducible first|apply e_end|apply d_end);(simp;exact Red.rfl))|((first|((with_reducible apply O1);rfl)|((with_reducible apply O2);rfl)|((with_reducible apply P1);rfl)|((with_reducible apply P2);rfl)|((with_reducible apply P3);rfl)|((with_reducible apply P4);rfl)|((with_reducible apply P5);rfl));(simp (disch:=omega);exact Red.rfl);exact Red.rfl;(focus (first|(simp;done)|omega|(simp;omega))))|((with_reducible first|apply Z7|apply Z8|apply Z9);(simp (disch:=omega);exact Red.rfl))|((with_reducible first|apply Z1|apply Z2|apply Z3|apply Z4|apply Z5|apply Z6);(simp (disch:=omega);exact Red.rfl))|((with_reducible first|apply W1|apply W2|apply W3);(simp (disch:=omega);exact Red.rfl))|((with_reducible apply P6);rfl;(simp (disch:=omega);exact Red.rfl);exact Red.rfl;(focus (first|(simp [pr];done)|(simp [pr];omega))))|((with_reducible apply P7);rfl;(simp (disch:=omega);exact Red.rfl);exact Red.rfl;(focus (simp [repast, pr, AOp.sem];done))))
  (with_reducible apply e_call); (simp; exact Red.rfl); exact c_aliveJ _
  rintro _ _ ⟨rfl, rfl⟩
  repeat (first|(with_reducible first|apply X1|apply X2|apply X3|apply X4|apply X5|apply X6|apply X7|apply X8|apply X9|apply Y1|apply Y2|apply Y3|apply Y4|apply Y5|apply Y6|apply Y7|apply Y8|apply Y9)|((with_reducible apply q_block_other);decide)|((with_reducible first|apply e_end|apply d_end);(simp;exact Red.rfl))|((first|((with_reducible apply O1);rfl)|((with_reducible apply O2);rfl)|((with_reducible apply P1);rfl)|((with_reducible apply P2);rfl)|((with_reducible apply P3);rfl)|((with_reducible apply P4);rfl)|((with_reducible apply P5);rfl));(simp (disch:=omega);exact Red.rfl);exact Red.rfl;(focus (first|(simp;done)|omega|(simp;omega))))|((with_reducible first|apply Z7|apply Z8|apply Z9);(simp (disch:=omega);exact Red.rfl))|((with_reducible first|apply Z1|apply Z2|apply Z3|apply Z4|apply Z5|apply Z6);(simp (disch:=omega);exact Red.rfl))|((with_reducible first|apply W1|apply W2|apply W3);(simp (disch:=omega);exact Red.rfl))|((with_reducible apply P6);rfl;(simp (disch:=omega);exact Red.rfl);exact Red.rfl;(focus (first|(simp [pr];done)|(simp [pr];omega))))|((with_reducible apply P7);rfl;(simp (disch:=omega);exact Red.rfl);exact Red.rfl;(focus (simp [repast, pr, AOp.sem];done))))
  (with_reducible apply e_call); (simp; exact Red.rfl); exact c_ready _ a id off ex (by rw [rd_old _ hid]; exact ha)
  rintro _ _ ⟨rfl, x, rfl, hva⟩
  cases x with
  | false =>
    repeat (first|(with_reducible first|apply X1|apply X2|apply X3|apply X4|apply X5|apply X6|apply X7|apply X8|apply X9|apply Y1|apply Y2|apply Y3|apply Y4|apply Y5|apply Y6|apply Y7|apply Y8|apply Y9)|((with_reducible apply q_block_other);decide)|((with_reducible first|apply e_end|apply d_end);(simp;exact Red.rfl))|((first|((with_reducible apply O1);rfl)|((with_reducible apply O2);rfl)|((with_reducible apply P1);rfl)|((with_reducible apply P2);rfl)|((with_reducible apply P3);rfl)|((with_reducible apply P4);rfl)|((with_reducible apply P5);rfl));(simp (disch:=omega);exact Red.rfl);exact Red.rfl;(focus (first|(simp;done)|omega|(simp;omega))))|((with_reducible first|apply Z7|apply Z8|apply Z9);(simp (disch:=omega);exact Red.rfl))|((with_reducible first|apply Z1|apply Z2|apply Z3|apply Z4|apply Z5|apply Z6);(simp (disch:=omega);exact Red.rfl))|((with_reducible first|apply W1|apply W2|apply W3);(simp (disch:=omega);exact Red.rfl))|((with_reducible apply P6);rfl;(simp (disch:=omega);exact Red.rfl);exact Red.rfl;(focus (first|(simp [pr];done)|(simp [pr];omega))))|((with_reducible apply P7);rfl;(simp (disch:=omega);exact Red.rfl);exact Red.rfl;(focus (simp [repast, pr, AOp.sem];done))))
    exact q_drop (.inr rfl) (by simp; exact Red.rfl) (by simp) rfl
  | true =>
    have hva := hva.1 rfl
    repeat (first|(with_reducible first|apply X1|apply X2|apply X3|apply X4|apply X5|apply X6|apply X7|apply X8|apply X9|apply Y1|apply Y2|apply Y3|apply Y4|apply Y5|apply Y6|apply Y7|apply Y8|apply Y9)|((with_reducible apply q_block_other);decide)|((with_reducible first|apply e_end|apply d_end);(simp;exact Red.rfl))|((first|((with_reducible apply O1);rfl)|((with_reducible apply O2);rfl)|((with_reducible apply P1);rfl)|((with_reducible apply P2);rfl)|((with_reducible apply P3);rfl)|((with_reducible apply P4);rfl)|((with_reducible apply P5);rfl));(simp (disch:=omega);exact Red.rfl);exact Red.rfl;(focus (first|(simp;done)|omega|(simp;omega))))|((with_reducible first|apply Z7|apply Z8|apply Z9);(simp (disch:=omega);exact Red.rfl))|((with_reducible first|apply Z1|apply Z2|apply Z3|apply Z4|apply Z5|apply Z6);(simp (disch:=omega);exact Red.rfl))|((with_reducible first|apply W1|apply W2|apply W3);(simp (disch:=omega);exact Red.rfl))|((with_reducible apply P6);rfl;(simp (disch:=omega);exact Red.rfl);exact Red.rfl;(focus (first|(simp [pr];done)|(simp [pr];omega))))|((with_reducible apply P7);rfl;(simp (disch:=omega);exact Red.rfl);exact Red.rfl;(focus (simp [repast, pr, AOp.sem];done))))
    (with_reducible apply e_call); (simp; exact Red.rfl); exact c_ready _ b id2 off2 ex2 (by rw [rd_old _ hid2]; exact hb)
    rintro _ _ ⟨rfl, x, rfl, hvb⟩
    cases x with
    | false =>
      repeat (first|(with_reducible first|apply X1|apply X2|apply X3|apply X4|apply X5|apply X6|apply X7|apply X8|apply X9|apply Y1|apply Y2|apply Y3|apply Y4|apply Y5|apply Y6|apply Y7|apply Y8|apply Y9)|((with_reducible apply q_block_other);decide)|((with_reducible first|apply e_end|apply d_end);(simp;exact Red.rfl))|((first|((with_reducible apply O1);rfl)|((with_reducible apply O2);rfl)|((with_reducible apply P1);rfl)|((with_reducible apply P2);rfl)|((with_reducible apply P3);rfl)|((with_reducible apply P4);rfl)|((with_reducible apply P5);rfl));(simp (disch:=omega);exact Red.rfl);exact Red.rfl;(focus (first|(simp;done)|omega|(simp;omega))))|((with_reducible first|apply Z7|apply Z8|apply Z9);(simp (disch:=omega);exact Red.rfl))|((with_reducible first|apply Z1|apply Z2|apply Z3|apply Z4|apply Z5|apply Z6);(simp (disch:=omega);exact Red.rfl))|((with_reducible first|apply W1|apply W2|apply W3);(simp (disch:=omega);exact Red.rfl))|((with_reducible apply P6);rfl;(simp (disch:=omega);exact Red.rfl);exact Red.rfl;(focus (first|(simp [pr];done)|(simp [pr];omega))))|((with_reducible apply P7);rfl;(simp (disch:=omega);exact Red.rfl);exact Red.rfl;(focus (simp [repast, pr, AOp.sem];done))))
      exact q_drop (.inr rfl) (by simp; exact Red.rfl) (by simp) rfl
    | true =>
      have hvb := hvb.1 rfl
      have ka := sz1 hva
      have kb := sz1 hvb
      have hE : ¬ (¬ validL a ∨ ¬ validL b) := by simp [hva, hvb]
      repeat (first|(with_reducible first|apply X1|apply X2|apply X3|apply X4|apply X5|apply X6|apply X7|apply X8|apply X9|apply Y1|apply Y2|apply Y3|apply Y4|apply Y5|apply Y6|apply Y7|apply Y8|apply Y9)|((with_reducible apply q_block_other);decide)|((with_reducible first|apply e_end|apply d_end);(simp;exact Red.rfl))|((first|((with_reducible apply O1);rfl)|((with_reducible apply O2);rfl)|((with_reducible apply P1);rfl)|((with_reducible apply P2);rfl)|((with_reducible apply P3);rfl)|((with_reducible apply P4);rfl)|((with_reducible apply P5);rfl));(simp (disch:=omega);exact Red.rfl);exact Red.rfl;(focus (first|(simp;done)|omega|(simp;omega))))|((with_reducible first|apply Z7|apply Z8|apply Z9);(simp (disch:=omega);exact Red.rfl))|((with_reducible first|apply Z1|apply Z2|apply Z3|apply Z4|apply Z5|apply Z6);(simp (disch:=omega);exact Red.rfl))|((with_reducible first|apply W1|apply W2|apply W3);(simp (disch:=omega);exact Red.rfl))|((with_reducible apply P6);rfl;(simp (disch:=omega);exact Red.rfl);exact Red.rfl;(focus (first|(simp [pr];done)|(simp [pr];omega))))|((with_reducible apply P7);rfl;(simp (disch:=omega);exact Red.rfl);exact Red.rfl;(focus (simp [repast, pr, AOp.sem];done))))
      by_cases h12 : 12 < a.length + b.length
      · have h12i : (12 : Int) < (a.length : Int) + b.length := by omega
        (with_reducible apply e_call); (simp; exact Red.rfl); exact c_JoinB _ a b id off id2 off2 ex ex2 9 (by rw [rd_old _ hid]; exact ha) (by rw [rd_old _ hid2]; exact hb) (by omega) (by omega) (by rw [joinE, if_neg hE, if_pos h12]) (by decide)
        rintro _ _ ⟨rfl, rfl⟩
        repeat (first|(with_reducible first|apply X1|apply X2|apply X3|apply X4|apply X5|apply X6|apply X7|apply X8|apply X9|apply Y1|apply Y2|apply Y3|apply Y4|apply Y5|apply Y6|apply Y7|apply Y8|apply Y9)|((with_reducible apply q_block_other);decide)|((with_reducible first|apply e_end|apply d_end);(simp;exact Red.rfl))|((first|((with_reducible apply O1);rfl)|((with_reducible apply O2);rfl)|((with_reducible apply P1);rfl)|((with_reducible apply P2);rfl)|((with_reducible apply P3);rfl)|((with_reducible apply P4);rfl)|((with_reducible apply P5);rfl));(simp (disch:=omega) [h12i];exact Red.rfl);exact Red.rfl;(focus (first|(simp;done)|omega|(simp;omega))))|((with_reducible first|apply Z7|apply Z8|apply Z9);(simp (disch:=omega) [h12i];exact Red.rfl))|((with_reducible first|apply Z1|apply Z2|apply Z3|apply Z4|apply Z5|apply Z6);(simp (disch:=omega) [h12i];exact Red.rfl))|((with_reducible first|apply W1|apply W2|apply W3);(simp (disch:=omega) [h12i];exact Red.rfl))|((with_reducible apply P6);rfl;(simp (disch:=omega) [h12i];exact Red.rfl);exact Red.rfl;(focus (first|(simp [pr];done)|(simp [pr];omega))))|((with_reducible apply P7);rfl;(simp (disch:=omega) [h12i];exact Red.rfl);exact Red.rfl;(focus (simp [repast, pr, AOp.sem];done))))
        exact q_drop (.inr rfl) (by simp; exact Red.rfl) (by simp) rfl
      · have h12i : ¬ (12 : Int) < (a.length : Int) + b.length := by omega
        have hx : rd H id (off + (a.length - 1) * 9) 1 = some [.int .i64 (lastId a)] := rd_cell (c := 0) ha (show a.length - 1 < a.length by omega) (by decide)
        have hy : rd H id2 off2 1 = some [.int .i64 (firstId b)] := by
          have h : rd H id2 (off2 + 0 * 9 + 0) 1 = some [.int .i64 (firstId b)] := rd_cell (c := 0) hb (show 0 < b.length by omega) (by decide)
          simpa only [Nat.zero_mul, Nat.add_zero] using h
        have hz : ((a.length : Int) - 1).toNat = a.length - 1 := by omega
        by_cases hlf : firstId b ≤ lastId a
        · (with_reducible apply e_call); (simp; exact Red.rfl); exact c_JoinB _ a b id off id2 off2 ex ex2 8 (by rw [rd_old _ hid]; exact ha) (by rw [rd_old _ hid2]; exact hb) (by omega) (by omega) (by rw [joinE, if_neg hE, if_neg h12, if_pos hlf]) (by decide)
          rintro _ _ ⟨rfl, rfl⟩
          repeat (first|(with_reducible first|apply X1|apply X2|apply X3|apply X4|apply X5|apply X6|apply X7|apply X8|apply X9|apply Y1|apply Y2|apply Y3|apply Y4|apply Y5|apply Y6|apply Y7|apply Y8|apply Y9)|((with_reducible apply q_block_other);decide)|((with_reducible first|apply e_end|apply d_end);(simp;exact Red.rfl))|((first|((with_reducible apply O1);rfl)|((with_reducible apply O2);rfl)|((with_reducible apply P1);rfl)|((with_reducible apply P2);rfl)|((with_reducible apply P3);rfl)|((with_reducible apply P4);rfl)|((with_reducible apply P5);rfl));(simp (disch:=omega) [h12i, rd_old _ hid, rd_old _ hid2, hx, hy, hz, hlf];exact Red.rfl);exact Red.rfl;(focus (first|(simp;done)|omega|(simp;omega))))|((with_reducible first|apply Z7|apply Z8|apply Z9);(simp (disch:=omega) [h12i, rd_old _ hid, rd_old _ hid2, hx, hy, hz, hlf];exact Red.rfl))|((with_reducible first|apply Z1|apply Z2|apply Z3|apply Z4|apply Z5|apply Z6);(simp (disch:=omega) [h12i, rd_old _ hid, rd_old _ hid2, hx, hy, hz, hlf];exact Red.rfl))|((with_reducible first|apply W1|apply W2|apply W3);(simp (disch:=omega) [h12i, rd_old _ hid, rd_old _ hid2, hx, hy, hz, hlf];exact Red.rfl))|((with_reducible apply P6);rfl;(simp (disch:=omega) [h12i, rd_old _ hid, rd_old _ hid2, hx, hy, hz, hlf];exact Red.rfl);exact Red.rfl;(focus (first|(simp [pr];done)|(simp [pr];omega))))|((with_reducible apply P7);rfl;(simp (disch:=omega) [h12i, rd_old _ hid, rd_old _ hid2, hx, hy, hz, hlf];exact Red.rfl);exact Red.rfl;(focus (simp [repast, pr, AOp.sem];done))))
          exact q_drop (.inr rfl) (by simp; exact Red.rfl) (by simp) rfl
        · have hab : validL (a ++ b) := valid_app hva hvb (by omega) (by omega)
          have hlab : (a ++ b).length = a.length + b.length := by simp
          have pab : Plain ((a ++ b).flatMap Str.av) := by rw [flat_eq]; exact (plain_str _).plain _
          have fab : ((a ++ b).flatMap Str.av).length = (a.length + b.length) * 9 := by rw [flat_eq, ← hlab]; exact (plain_str _).length _
          have kJ := fun G => c_JoinG (H ++ G) a b id off id2 off2 ex ex2 (by rw [rd_old _ hid]; exact ha) (by rw [rd_old _ hid2]; exact hb) hva hvb h12 hlf
          have l1 := sum_app_lo kLong a b
          have l2 := sum_app_hi kLong a b
          have l3 := sum_app_lo kFall a b
          have l4 := sum_app_hi kFall a b
          have la := fun hm hL hF => left_app (ms := ms) hva hvb hab hm hL hF
          have gL := fun hm => good_app (k := kLong) (ms := ms) kLong_ok (a := a) hvb hm
          have gF := fun hm => good_app (k := kFall) (ms := ms) kFall_ok (a := a) hvb hm
          generalize hcc : a ++ b = c at *
          simp only [← hlab] at kJ l1 l2 l3 l4 fab
          have hcl : (c.length : Int) = (a.length : Int) + b.length := by omega
          (with_reducible apply e_call); (simp; exact Red.rfl); exact kJ _
          rintro _ _ ⟨rfl, rfl⟩
          repeat (first|(with_reducible first|apply X1|apply X2|apply X3|apply X4|apply X5|apply X6|apply X7|apply X8|apply X9|apply Y1|apply Y2|apply Y3|apply Y4|apply Y5|apply Y6|apply Y7|apply Y8|apply Y9)|((with_reducible apply q_block_other);decide)|((with_reducible first|apply e_end|apply d_end);(simp;exact Red.rfl))|((first|((with_reducible apply O1);rfl)|((with_reducible apply O2);rfl)|((with_reducible apply P1);rfl)|((with_reducible apply P2);rfl)|((with_reducible apply P3);rfl)|((with_reducible apply P4);rfl)|((with_reducible apply P5);rfl));(simp (disch:=omega) [h12i, rd_old _ hid, rd_old _ hid2, hx, hy, hz, hlf, hcl];exact Red.rfl);exact Red.rfl;(focus (first|(simp;done)|omega|(simp;omega))))|((with_reducible first|apply Z7|apply Z8|apply Z9);(simp (disch:=omega) [h12i, rd_old _ hid, rd_old _ hid2, hx, hy, hz, hlf, hcl];exact Red.rfl))|((with_reducible first|apply Z1|apply Z2|apply Z3|apply Z4|apply Z5|apply Z6);(simp (disch:=omega) [h12i, rd_old _ hid, rd_old _ hid2, hx, hy, hz, hlf, hcl];exact Red.rfl))|((with_reducible first|apply W1|apply W2|apply W3);(simp (disch:=omega) [h12i, rd_old _ hid, rd_old _ hid2, hx, hy, hz, hlf, hcl];exact Red.rfl))|((with_reducible apply P6);rfl;(simp (disch:=omega) [h12i, rd_old _ hid, rd_old _ hid2, hx, hy, hz, hlf, hcl];exact Red.rfl);exact Red.rfl;(focus (first|(simp [pr];done)|(simp [pr];omega))))|((with_reducible apply P7);rfl;(simp (disch:=omega) [h12i, rd_old _ hid, rd_old _ hid2, hx, hy, hz, hlf, hcl];exact Red.rfl);exact Red.rfl;(focus (simp [repast, pr, AOp.sem];done))))
          (with_reducible apply e_call); (simp; exact Red.rfl); exact c_Check _ c (H.length + 2) 0 false (rd_full (b := true) (by simp [at_new, Nat.add_assoc]) fab) (by omega)
          rintro _ _ ⟨rfl, e, rfl, he⟩
          obtain rfl : e = 0 := by
            rcases he with h | h
            · exact h.2
            · exact absurd hab h.1
          repeat (first|(with_reducible first|apply X1|apply X2|apply X3|apply X4|apply X5|apply X6|apply X7|apply X8|apply X9|apply Y1|apply Y2|apply Y3|apply Y4|apply Y5|apply Y6|apply Y7|apply Y8|apply Y9)|((with_reducible apply q_block_other);decide)|((with_reducible first|apply e_end|apply d_end);(simp;exact Red.rfl))|((first|((with_reducible apply O1);rfl)|((with_reducible apply O2);rfl)|((with_reducible apply P1);rfl)|((with_reducible apply P2);rfl)|((with_reducible apply P3);rfl)|((with_reducible apply P4);rfl)|((with_reducible apply P5);rfl));(simp (disch:=omega);exact Red.rfl);exact Red.rfl;(focus (first|(simp;done)|omega|(simp;omega))))|((with_reducible first|apply Z7|apply Z8|apply Z9);(simp (disch:=omega);exact Red.rfl))|((with_reducible first|apply Z1|apply Z2|apply Z3|apply Z4|apply Z5|apply Z6);(simp (disch:=omega);exact Red.rfl))|((with_reducible first|apply W1|apply W2|apply W3);(simp (disch:=omega);exact Red.rfl))|((with_reducible apply P6);rfl;(simp (disch:=omega);exact Red.rfl);exact Red.rfl;(focus (first|(simp [pr];done)|(simp [pr];omega))))|((with_reducible apply P7);rfl;(simp (disch:=omega);exact Red.rfl);exact Red.rfl;(focus (simp [repast, pr, AOp.sem];done))))
          have q1 := kind_bd kLong_ok hva (show 0 + a.length ≤ a.length by omega)
          have q2 := kind_bd kFall_ok hva (show 0 + a.length ≤ a.length by omega)
          have q3 := kind_bd kLong_ok hvb (show 0 + b.length ≤ b.length by omega)
          have q4 := kind_bd kFall_ok hvb (show 0 + b.length ≤ b.length by omega)
          have hrc : ∀ G, rd (H ++ .cells [.slice id off a.length 9 ex] true :: .cells [.slice id2 off2 b.length 9 ex2] true :: .cells (c.flatMap Str.av) true :: G) (H.length + 2) 0 (c.length * 9) = some (c.flatMap Str.av) := fun G => rd_full (b := true) (by simp [at_new, Nat.add_assoc]) fab
          have k1 := fun G => c_Drop (H ++ G) a id off ex 0 a.length (by rw [rd_old _ hid]; exact ha) hva (by omega) (Nat.le_refl _)
          have k2 := fun G => c_Drop (H ++ G) b id2 off2 ex2 0 b.length (by rw [rd_old _ hid2]; exact hb) hvb (by omega) (Nat.le_refl _)
          have k3 := fun G => c_Drop (H ++ .cells [.slice id off a.length 9 ex] true :: .cells [.slice id2 off2 b.length 9 ex2] true :: .cells (c.flatMap Str.av) true :: G) c (H.length + 2) 0 false 0 c.length (hrc G) hab (by omega) (Nat.le_refl _)
          simp only [Nat.sub_zero, l1, l2, l3, l4] at k1 k2 k3
          rw [hcl] at k3
          generalize sumF (kLo kLong a) 0 a.length = x1 at *
          generalize sumF (kHi kLong a) 0 a.length = x2 at *
          generalize sumF (kLo kFall a) 0 a.length = x3 at *
          generalize sumF (kHi kFall a) 0 a.length = x4 at *
          generalize sumF (kLo kLong b) 0 b.length = y1 at *
          generalize sumF (kHi kLong b) 0 b.length = y2 at *
          generalize sumF (kLo kFall b) 0 b.length = y3 at *
          generalize sumF (kHi kFall b) 0 b.length = y4 at *
          (with_reducible apply e_call); (simp; exact Red.rfl); exact k1 _
          rintro _ _ ⟨rfl, rfl⟩
          repeat (first|(with_reducible first|apply X1|apply X2|apply X3|apply X4|apply X5|apply X6|apply X7|apply X8|apply X9|apply Y1|apply Y2|apply Y3|apply Y4|apply Y5|apply Y6|apply Y7|apply Y8|apply Y9)|((with_reducible apply q_block_other);decide)|((with_reducible first|apply e_end|apply d_end);(simp;exact Red.rfl))|((first|((with_reducible apply O1);rfl)|((with_reducible apply O2);rfl)|((with_reducible apply P1);rfl)|((with_reducible apply P2);rfl)|((with_reducible apply P3);rfl)|((with_reducible apply P4);rfl)|((with_reducible apply P5);rfl));(simp (disch:=omega);exact Red.rfl);exact Red.rfl;(focus (first|(simp;done)|omega|(simp;omega))))|((with_reducible first|apply Z7|apply Z8|apply Z9);(simp (disch:=omega);exact Red.rfl))|((with_reducible first|apply Z1|apply Z2|apply Z3|apply Z4|apply Z5|apply Z6);(simp (disch:=omega);exact Red.rfl))|((with_reducible first|apply W1|apply W2|apply W3);(simp (disch:=omega);exact Red.rfl))|((with_reducible apply P6);rfl;(simp (disch:=omega);exact Red.rfl);exact Red.rfl;(focus (first|(simp [pr];done)|(simp [pr];omega))))|((with_reducible apply P7);rfl;(simp (disch:=omega);exact Red.rfl);exact Red.rfl;(focus (simp [repast, pr, AOp.sem];done))))
          (with_reducible apply e_call); (simp; exact Red.rfl); exact k2 _
          rintro _ _ ⟨rfl, rfl⟩
          repeat (first|(with_reducible first|apply X1|apply X2|apply X3|apply X4|apply X5|apply X6|apply X7|apply X8|apply X9|apply Y1|apply Y2|apply Y3|apply Y4|apply Y5|apply Y6|apply Y7|apply Y8|apply Y9)|((with_reducible apply q_block_other);decide)|((with_reducible first|apply e_end|apply d_end);(simp;exact Red.rfl))|((first|((with_reducible apply O1);rfl)|((with_reducible apply O2);rfl)|((with_reducible apply P1);rfl)|((with_reducible apply P2);rfl)|((with_reducible apply P3);rfl)|((with_reducible apply P4);rfl)|((with_reducible apply P5);rfl));(simp (disch:=omega);exact Red.rfl);exact Red.rfl;(focus (first|(simp;done)|omega|(simp;omega))))|((with_reducible first|apply Z7|apply Z8|apply Z9);(simp (disch:=omega);exact Red.rfl))|((with_reducible first|apply Z1|apply Z2|apply Z3|apply Z4|apply Z5|apply Z6);(simp (disch:=omega);exact Red.rfl))|((with_reducible first|apply W1|apply W2|apply W3);(simp (disch:=omega);exact Red.rfl))|((with_reducible apply P6);rfl;(simp (disch:=omega);exact Red.rfl);exact Red.rfl;(focus (first|(simp [pr];done)|(simp [pr];omega))))|((with_reducible apply P7);rfl;(simp (disch:=omega);exact Red.rfl);exact Red.rfl;(focus (simp [repast, pr, AOp.sem];done))))
          (with_reducible apply e_call); (simp; exact Red.rfl); exact k3 _
          rintro _ _ ⟨rfl, rfl⟩
          repeat (first|(with_reducible first|apply X1|apply X2|apply X3|apply X4|apply X5|apply X6|apply X7|apply X8|apply X9|apply Y1|apply Y2|apply Y3|apply Y4|apply Y5|apply Y6|apply Y7|apply Y8|apply Y9)|((with_reducible apply q_block_other);decide)|((with_reducible first|apply e_end|apply d_end);(simp;exact Red.rfl))|((first|((with_reducible apply O1);rfl)|((with_reducible apply O2);rfl)|((with_reducible apply P1);rfl)|((with_reducible apply P2);rfl)|((with_reducible apply P3);rfl)|((with_reducible apply P4);rfl)|((with_reducible apply P5);rfl));(simp (disch:=omega);exact Red.rfl);exact Red.rfl;(focus (first|(simp;done)|omega|(simp;omega))))|((with_reducible first|apply Z7|apply Z8|apply Z9);(simp (disch:=omega);exact Red.rfl))|((with_reducible first|apply Z1|apply Z2|apply Z3|apply Z4|apply Z5|apply Z6);(simp (disch:=omega);exact Red.rfl))|((with_reducible first|apply W1|apply W2|apply W3);(simp (disch:=omega);exact Red.rfl))|((with_reducible apply P6);rfl;(simp (disch:=omega);exact Red.rfl);exact Red.rfl;(focus (first|(simp [pr];done)|(simp [pr];omega))))|((with_reducible apply P7);rfl;(simp (disch:=omega);exact Red.rfl);exact Red.rfl;(focus (simp [repast, pr, AOp.sem];done))))
          (with_reducible apply d_call); (simp; exact Red.rfl); exact c_span _ _ _; (focus (first | (simp; done) | (simp; omega)))
          repeat (first|(with_reducible first|apply X1|apply X2|apply X3|apply X4|apply X5|apply X6|apply X7|apply X8|apply X9|apply Y1|apply Y2|apply Y3|apply Y4|apply Y5|apply Y6|apply Y7|apply Y8|apply Y9)|((with_reducible apply q_block_other);decide)|((with_reducible first|apply e_end|apply d_end);(simp;exact Red.rfl))|((first|((with_reducible apply O1);rfl)|((with_reducible apply O2);rfl)|((with_reducible apply P1);rfl)|((with_reducible apply P2);rfl)|((with_reducible apply P3);rfl)|((with_reducible apply P4);rfl)|((with_reducible apply P5);rfl));(simp (disch:=omega);exact Red.rfl);exact Red.rfl;(focus (first|(simp;done)|omega|(simp;omega))))|((with_reducible first|apply Z7|apply Z8|apply Z9);(simp (disch:=omega);exact Red.rfl))|((with_reducible first|apply Z1|apply Z2|apply Z3|apply Z4|apply Z5|apply Z6);(simp (disch:=omega);exact Red.rfl))|((with_reducible first|apply W1|apply W2|apply W3);(simp (disch:=omega);exact Red.rfl))|((with_reducible apply P6);rfl;(simp (disch:=omega);exact Red.rfl);exact Red.rfl;(focus (first|(simp [pr];done)|(simp [pr];omega))))|((with_reducible apply P7);rfl;(simp (disch:=omega);exact Red.rfl);exact Red.rfl;(focus (simp [repast, pr, AOp.sem];done))))
          (with_reducible apply d_call); (simp; exact Red.rfl); exact c_span _ _ _; (focus (first | (simp; done) | (simp; omega)))
          repeat (first|(with_reducible first|apply X1|apply X2|apply X3|apply X4|apply X5|apply X6|apply X7|apply X8|apply X9|apply Y1|apply Y2|apply Y3|apply Y4|apply Y5|apply Y6|apply Y7|apply Y8|apply Y9)|((with_reducible apply q_block_other);decide)|((with_reducible first|apply e_end|apply d_end);(simp;exact Red.rfl))|((first|((with_reducible apply O1);rfl)|((with_reducible apply O2);rfl)|((with_reducible apply P1);rfl)|((with_reducible apply P2);rfl)|((with_reducible apply P3);rfl)|((with_reducible apply P4);rfl)|((with_reducible apply P5);rfl));(simp (disch:=omega);exact Red.rfl);exact Red.rfl;(focus (first|(simp;done)|omega|(simp;omega))))|((with_reducible first|apply Z7|apply Z8|apply Z9);(simp (disch:=omega);exact Red.rfl))|((with_reducible first|apply Z1|apply Z2|apply Z3|apply Z4|apply Z5|apply Z6);(simp (disch:=omega);exact Red.rfl))|((with_reducible first|apply W1|apply W2|apply W3);(simp (disch:=omega);exact Red.rfl))|((with_reducible apply P6);rfl;(simp (disch:=omega);exact Red.rfl);exact Red.rfl;(focus (first|(simp [pr];done)|(simp [pr];omega))))|((with_reducible apply P7);rfl;(simp (disch:=omega);exact Red.rfl);exact Red.rfl;(focus (simp [repast, pr, AOp.sem];done))))
          (with_reducible apply e_call); (simp; exact Red.rfl); exact c_rMeasures _ a.length id off ex ms mid moff mex (by simp; omega) (by rw [rd_old _ hmid]; exact hm) hn hk
          rintro _ _ ⟨rfl, x, rfl, hbm⟩
          cases x with
          | false =>
            repeat (first|(with_reducible first|apply X1|apply X2|apply X3|apply X4|apply X5|apply X6|apply X7|apply X8|apply X9|apply Y1|apply Y2|apply Y3|apply Y4|apply Y5|apply Y6|apply Y7|apply Y8|apply Y9)|((with_reducible apply q_block_other);decide)|((with_reducible first|apply e_end|apply d_end);(simp;exact Red.rfl))|((first|((with_reducible apply O1);rfl)|((with_reducible apply O2);rfl)|((with_reducible apply P1);rfl)|((with_reducible apply P2);rfl)|((with_reducible apply P3);rfl)|((with_reducible apply P4);rfl)|((with_reducible apply P5);rfl));(simp (disch:=omega);exact Red.rfl);exact Red.rfl;(focus (first|(simp;done)|omega|(simp;omega))))|((with_reducible first|apply Z7|apply Z8|apply Z9);(simp (disch:=omega);exact Red.rfl))|((with_reducible first|apply Z1|apply Z2|apply Z3|apply Z4|apply Z5|apply Z6);(simp (disch:=omega);exact Red.rfl))|((with_reducible first|apply W1|apply W2|apply W3);(simp (disch:=omega);exact Red.rfl))|((with_reducible apply P6);rfl;(simp (disch:=omega);exact Red.rfl);exact Red.rfl;(focus (first|(simp [pr];done)|(simp [pr];omega))))|((with_reducible apply P7);rfl;(simp (disch:=omega);exact Red.rfl);exact Red.rfl;(focus (simp [repast, pr, AOp.sem];done))))
            exact q_drop (.inr rfl) (by simp; exact Red.rfl) (by simp [pab.sc]) rfl
          | true =>
            have okm := hbm.1 rfl
            have okc : okMs c.length ms := by rw [hlab]; exact ok_app okm
            have hm12 := okm.1
            have gL := gL okm.2
            have gF := gF okm.2
            repeat (first|(with_reducible first|apply X1|apply X2|apply X3|apply X4|apply X5|apply X6|apply X7|apply X8|apply X9|apply Y1|apply Y2|apply Y3|apply Y4|apply Y5|apply Y6|apply Y7|apply Y8|apply Y9)|((with_reducible apply q_block_other);decide)|((with_reducible first|apply e_end|apply d_end);(simp;exact Red.rfl))|((first|((with_reducible apply O1);rfl)|((with_reducible apply O2);rfl)|((with_reducible apply P1);rfl)|((with_reducible apply P2);rfl)|((with_reducible apply P3);rfl)|((with_reducible apply P4);rfl)|((with_reducible apply P5);rfl));(simp (disch:=omega);exact Red.rfl);exact Red.rfl;(focus (first|(simp;done)|omega|(simp;omega))))|((with_reducible first|apply Z7|apply Z8|apply Z9);(simp (disch:=omega);exact Red.rfl))|((with_reducible first|apply Z1|apply Z2|apply Z3|apply Z4|apply Z5|apply Z6);(simp (disch:=omega);exact Red.rfl))|((with_reducible first|apply W1|apply W2|apply W3);(simp (disch:=omega);exact Red.rfl))|((with_reducible apply P6);rfl;(simp (disch:=omega);exact Red.rfl);exact Red.rfl;(focus (first|(simp [pr];done)|(simp [pr];omega))))|((with_reducible apply P7);rfl;(simp (disch:=omega);exact Red.rfl);exact Red.rfl;(focus (simp [repast, pr, AOp.sem];done))))
            (with_reducible apply e_call); (simp; exact Red.rfl); exact c_NarrowD _ a id off ex ms _ (by rw [rd_old _ hid]; exact ha) hva (.inr ⟨mid, moff, mex, rfl, by rw [rd_old _ hmid]; exact hm⟩) hn okm
            rintro _ _ (⟨⟨hL, hF⟩, rfl, rfl⟩ | ⟨hng, rfl, rfl⟩)
            · have la := la okm.2 hL hF
              have pa : Plain (avR (fun j => (lefS a ms j).av) a.length) := (plain_fun _).plain _
              have pc : Plain (avR (fun j => (lefS c ms j).av) c.length) := (plain_fun _).plain _
              repeat (first|(with_reducible first|apply X1|apply X2|apply X3|apply X4|apply X5|apply X6|apply X7|apply X8|apply X9|apply Y1|apply Y2|apply Y3|apply Y4|apply Y5|apply Y6|apply Y7|apply Y8|apply Y9)|((with_reducible apply q_block_other);decide)|((with_reducible first|apply e_end|apply d_end);(simp;exact Red.rfl))|((first|((with_reducible apply O1);rfl)|((with_reducible apply O2);rfl)|((with_reducible apply P1);rfl)|((with_reducible apply P2);rfl)|((with_reducible apply P3);rfl)|((with_reducible apply P4);rfl)|((with_reducible apply P5);rfl));(simp (disch:=omega);exact Red.rfl);exact Red.rfl;(focus (first|(simp;done)|omega|(simp;omega))))|((with_reducible first|apply Z7|apply Z8|apply Z9);(simp (disch:=omega);exact Red.rfl))|((with_reducible first|apply Z1|apply Z2|apply Z3|apply Z4|apply Z5|apply Z6);(simp (disch:=omega);exact Red.rfl))|((with_reducible first|apply W1|apply W2|apply W3);(simp (disch:=omega);exact Red.rfl))|((with_reducible apply P6);rfl;(simp (disch:=omega);exact Red.rfl);exact Red.rfl;(focus (first|(simp [pr];done)|(simp [pr];omega))))|((with_reducible apply P7);rfl;(simp (disch:=omega);exact Red.rfl);exact Red.rfl;(focus (simp [repast, pr, AOp.sem];done))))
              (with_reducible apply e_call); (simp; exact Red.rfl); exact c_NarrowD _ c (H.length + 2) 0 false ms _ (hrc _) hab (.inr ⟨mid, moff, mex, rfl, by rw [rd_old _ hmid]; exact hm⟩) hn okc
              rintro _ _ (⟨_, rfl, rfl⟩ | ⟨hng, rfl, rfl⟩)
              · have kJ2 := fun (Hh : Heap) (h1 : rd Hh (H.length + 10) 0 (a.length * 9) = some (avR (fun j => (lefS a ms j).av) a.length)) (h2 : rd Hh id2 off2 (b.length * 9) = some (b.flatMap Str.av)) =>
                  c_JoinG Hh (listS (lefS a ms) a.length) b (H.length + 10) 0 id2 off2 false ex2 (by rw [left_len, listS_av]; exact h1) h2 (lefS_valid hva okm.2 hL hF) hvb (by rw [left_len]; exact h12) (by rw [left_last hva]; exact hlf)
                simp only [left_len, ← la, listS_av] at kJ2
                rw [← hlab] at kJ2
                repeat (first|(with_reducible first|apply X1|apply X2|apply X3|apply X4|apply X5|apply X6|apply X7|apply X8|apply X9|apply Y1|apply Y2|apply Y3|apply Y4|apply Y5|apply Y6|apply Y7|apply Y8|apply Y9)|((with_reducible apply q_block_other);decide)|((with_reducible first|apply e_end|apply d_end);(simp;exact Red.rfl))|((first|((with_reducible apply O1);rfl)|((with_reducible apply O2);rfl)|((with_reducible apply P1);rfl)|((with_reducible apply P2);rfl)|((with_reducible apply P3);rfl)|((with_reducible apply P4);rfl)|((with_reducible apply P5);rfl));(simp (disch:=omega);exact Red.rfl);exact Red.rfl;(focus (first|(simp;done)|omega|(simp;omega))))|((with_reducible first|apply Z7|apply Z8|apply Z9);(simp (disch:=omega);exact Red.rfl))|((with_reducible first|apply Z1|apply Z2|apply Z3|apply Z4|apply Z5|apply Z6);(simp (disch:=omega);exact Red.rfl))|((with_reducible first|apply W1|apply W2|apply W3);(simp (disch:=omega);exact Red.rfl))|((with_reducible apply P6);rfl;(simp (disch:=omega);exact Red.rfl);exact Red.rfl;(focus (first|(simp [pr];done)|(simp [pr];omega))))|((with_reducible apply P7);rfl;(simp (disch:=omega);exact Red.rfl);exact Red.rfl;(focus (simp [repast, pr, AOp.sem];done))))
                (with_reducible apply e_call); (simp; exact Red.rfl); exact kJ2 _ (rd_full (b := true) (by simp [at_new, Nat.add_assoc]) (lenS _ _)) (by rw [rd_old _ hid2]; exact hb)
                rintro _ _ ⟨rfl, rfl⟩
                repeat (first|(with_reducible first|apply X1|apply X2|apply X3|apply X4|apply X5|apply X6|apply X7|apply X8|apply X9|apply Y1|apply Y2|apply Y3|apply Y4|apply Y5|apply Y6|apply Y7|apply Y8|apply Y9)|((with_reducible apply q_block_other);decide)|((with_reducible first|apply e_end|apply d_end);(simp;exact Red.rfl))|((first|((with_reducible apply O1);rfl)|((with_reducible apply O2);rfl)|((with_reducible apply P1);rfl)|((with_reducible apply P2);rfl)|((with_reducible apply P3);rfl)|((with_reducible apply P4);rfl)|((with_reducible apply P5);rfl));(simp (disch:=omega);exact Red.rfl);exact Red.rfl;(focus (first|(simp;done)|omega|(simp;omega))))|((with_reducible first|apply Z7|apply Z8|apply Z9);(simp (disch:=omega);exact Red.rfl))|((with_reducible first|apply Z1|apply Z2|apply Z3|apply Z4|apply Z5|apply Z6);(simp (disch:=omega);exact Red.rfl))|((with_reducible first|apply W1|apply W2|apply W3);(simp (disch:=omega);exact Red.rfl))|((with_reducible apply P6);rfl;(simp (disch:=omega);exact Red.rfl);exact Red.rfl;(focus (first|(simp [pr];done)|(simp [pr];omega))))|((with_reducible apply P7);rfl;(simp (disch:=omega);exact Red.rfl);exact Red.rfl;(focus (simp [repast, pr, AOp.sem];done))))
                (with_reducible apply e_call); (simp; exact Red.rfl); exact c_SameT _ (lefS c ms) c.length (H.length + 12) (H.length + 14) true true false false (by simp [at_new, Nat.add_assoc]) (by simp [at_new, Nat.add_assoc]) (by omega)
                rintro _ _ ⟨rfl, rfl⟩
                repeat (first|(with_reducible first|apply X1|apply X2|apply X3|apply X4|apply X5|apply X6|apply X7|apply X8|apply X9|apply Y1|apply Y2|apply Y3|apply Y4|apply Y5|apply Y6|apply Y7|apply Y8|apply Y9)|((with_reducible apply q_block_other);decide)|((with_reducible first|apply e_end|apply d_end);(simp;exact Red.rfl))|((first|((with_reducible apply O1);rfl)|((with_reducible apply O2);rfl)|((with_reducible apply P1);rfl)|((with_reducible apply P2);rfl)|((with_reducible apply P3);rfl)|((with_reducible apply P4);rfl)|((with_reducible apply P5);rfl));(simp (disch:=omega);exact Red.rfl);exact Red.rfl;(focus (first|(simp;done)|omega|(simp;omega))))|((with_reducible first|apply Z7|apply Z8|apply Z9);(simp (disch:=omega);exact Red.rfl))|((with_reducible first|apply Z1|apply Z2|apply Z3|apply Z4|apply Z5|apply Z6);(simp (disch:=omega);exact Red.rfl))|((with_reducible first|apply W1|apply W2|apply W3);(simp (disch:=omega);exact Red.rfl))|((with_reducible apply P6);rfl;(simp (disch:=omega);exact Red.rfl);exact Red.rfl;(focus (first|(simp [pr];done)|(simp [pr];omega))))|((with_reducible apply P7);rfl;(simp (disch:=omega);exact Red.rfl);exact Red.rfl;(focus (simp [repast, pr, AOp.sem];done))))
                exact q_drop (.inr rfl) (by simp; exact Red.rfl) (by simp [pab.sc, pa.sc, pc.sc]) rfl
              · exact absurd ⟨gL.2 hL, gF.2 hF⟩ hng
            · repeat (first|(with_reducible first|apply X1|apply X2|apply X3|apply X4|apply X5|apply X6|apply X7|apply X8|apply X9|apply Y1|apply Y2|apply Y3|apply Y4|apply Y5|apply Y6|apply Y7|apply Y8|apply Y9)|((with_reducible apply q_block_other);decide)|((with_reducible first|apply e_end|apply d_end);(simp;exact Red.rfl))|((first|((with_reducible apply O1);rfl)|((with_reducible apply O2);rfl)|((with_reducible apply P1);rfl)|((with_reducible apply P2);rfl)|((with_reducible apply P3);rfl)|((with_reducible apply P4);rfl)|((with_reducible apply P5);rfl));(simp (disch:=omega);exact Red.rfl);exact Red.rfl;(focus (first|(simp;done)|omega|(simp;omega))))|((with_reducible first|apply Z7|apply Z8|apply Z9);(simp (disch:=omega);exact Red.rfl))|((with_reducible first|apply Z1|apply Z2|apply Z3|apply Z4|apply Z5|apply Z6);(simp (disch:=omega);exact Red.rfl))|((with_reducible first|apply W1|apply W2|apply W3);(simp (disch:=omega);exact Red.rfl))|((with_reducible apply P6);rfl;(simp (disch:=omega);exact Red.rfl);exact Red.rfl;(focus (first|(simp [pr];done)|(simp [pr];omega))))|((with_reducible apply P7);rfl;(simp (disch:=omega);exact Red.rfl);exact Red.rfl;(focus (simp [repast, pr, AOp.sem];done))))
              (with_reducible apply e_call); (simp; exact Red.rfl); exact c_NarrowD _ c (H.length + 2) 0 false ms _ (hrc _) hab (.inr ⟨mid, moff, mex, rfl, by rw [rd_old _ hmid]; exact hm⟩) hn okc
              rintro _ _ (⟨⟨hL, hF⟩, rfl, rfl⟩ | ⟨hng2, rfl, rfl⟩)
              · exact absurd ⟨gL.1 hL, gF.1 hF⟩ hng
              · repeat (first|(with_reducible first|apply X1|apply X2|apply X3|apply X4|apply X5|apply X6|apply X7|apply X8|apply X9|apply Y1|apply Y2|apply Y3|apply Y4|apply Y5|apply Y6|apply Y7|apply Y8|apply Y9)|((with_reducible apply q_block_other);decide)|((with_reducible first|apply e_end|apply d_end);(simp;exact Red.rfl))|((first|((with_reducible apply O1);rfl)|((with_reducible apply O2);rfl)|((with_reducible apply P1);rfl)|((with_reducible apply P2);rfl)|((with_reducible apply P3);rfl)|((with_reducible apply P4);rfl)|((with_reducible apply P5);rfl));(simp (disch:=omega);exact Red.rfl);exact Red.rfl;(focus (first|(simp;done)|omega|(simp;omega))))|((with_reducible first|apply Z7|apply Z8|apply Z9);(simp (disch:=omega);exact Red.rfl))|((with_reducible first|apply Z1|apply Z2|apply Z3|apply Z4|apply Z5|apply Z6);(simp (disch:=omega);exact Red.rfl))|((with_reducible first|apply W1|apply W2|apply W3);(simp (disch:=omega);exact Red.rfl))|((with_reducible apply P6);rfl;(simp (disch:=omega);exact Red.rfl);exact Red.rfl;(focus (first|(simp [pr];done)|(simp [pr];omega))))|((with_reducible apply P7);rfl;(simp (disch:=omega);exact Red.rfl);exact Red.rfl;(focus (simp [repast, pr, AOp.sem];done))))
                exact q_drop (.inr rfl) (by simp; exact Red.rfl) (by simp [pab.sc]) rfl
end Go.Proofs
