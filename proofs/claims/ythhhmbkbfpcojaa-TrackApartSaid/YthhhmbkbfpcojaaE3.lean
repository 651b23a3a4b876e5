/- Contracts over rows; the law TrackLonger. -/
import Derived.Test.YthhhmbkbfpcojaaEE
import Derived.Test.YthhhmbkbfpcojaaRunTrackAlive
namespace Go.Proofs
open Go.Abs
attribute [local simp] AOp.den AOpd.ev lk cellsOf rd_new rd_new0 rd_zero rd_succ wr_new wr_new0 wr_zero wr_succ splice fillA binA scal sliceCells List.length_append argsT AV.sc scL AObj.sc resV getAll AR.get AOp.slots opdSlots opdsSlots partSlots eqAt at_new0 at_new set_new0 set_new wrap64
set_option linter.unusedSimpArgs false
set_option linter.unusedVariables false
theorem c_aliveT (H : Heap) : ACalls Try.prog F.law01_alive [] H (fun v h => v = .bool true ∧ h = H) := Try.true15 H
theorem rd_S {H : Heap} {S : Nat → Str} {n id : Nat} {own : Bool} (hh : H[id]? = some (.cells (avR (fun j => (S j).av) n) own)) : rd H id 0 ((listS S n).length * 9) = some ((listS S n).flatMap Str.av) := by
  rw [listS_length, listS_av]; exact rd_full hh (lenS S n)
theorem c_rTrackS (H : Heap) (S : Nat → Str) (n id : Nat) (own ex : Bool) (hh : H[id]? = some (.cells (avR (fun j => (S j).av) n) own)) (hn : (n : Int) < 1000000) :
    ACalls Try.prog F.ref01_Track [.agg [.slice id 0 n 9 ex]] H (fun v h' => h' = H ∧ ∃ b : Bool, v = .bool b ∧ (b = true ↔ validL (listS S n))) := by
  have := c_rTrack H (listS S n) id 0 ex (rd_S hh) (by rw [listS_length]; exact hn)
  rwa [listS_length] at this
theorem c_MarksS (H : Heap) (S : Nat → Str) (n id : Nat) (own ex : Bool) (hh : H[id]? = some (.cells (avR (fun j => (S j).av) n) own)) (hv : validL (listS S n)) :
    ACalls Try.prog F.track_Marks [.agg [.slice id 0 n 9 ex]] H (fun v h' => v = .tuple [.slice H.length 0 (n + 1) 2 false, .int .i64 0] ∧ h' = H ++ [.cells (avR (r2 (mLo (listS S n)) (mHi (listS S n))) (n + 1)) true]) := by
  have := c_Marks H (listS S n) id 0 ex (rd_S hh) hv
  rwa [listS_length] at this
theorem c_AtV (H : Heap) (l : List Str) (id off : Nat) (ex : Bool) (b1 : Nat) (b2 b3 : Int) (hs : rd H id off (l.length * 9) = some (l.flatMap Str.av)) (hv : validL l) (hp : spotOK l b1 b2 b3) :
    ACalls Try.prog F.track_At [.agg [.slice id off l.length 9 ex], .agg [.int .i64 b1, .int .i64 b2, .int .i64 b3]] H (fun v h' => v = .tuple [.agg [.int .i64 (mLo l b1 + b2), .int .i64 (mHi l b1 + b3)], .int .i64 0] ∧ h' = H) := by
  refine (c_At H l id off ex b1 b2 b3 hs (by have := hv.1; omega)).mono ?_
  rintro v h' ⟨rfl, p, q, e, rfl, h⟩
  rcases h with h | h | ⟨_, _, rfl, rfl, rfl⟩
  · exact absurd hv h.1
  · exact absurd hp h.2.1
  · exact ⟨rfl, rfl⟩
theorem c_AtSV (H : Heap) (S : Nat → Str) (n id : Nat) (own ex : Bool) (b1 : Nat) (b2 b3 : Int) (hh : H[id]? = some (.cells (avR (fun j => (S j).av) n) own)) (hv : validL (listS S n)) (hp : spotOK (listS S n) b1 b2 b3) :
    ACalls Try.prog F.track_At [.agg [.slice id 0 n 9 ex], .agg [.int .i64 b1, .int .i64 b2, .int .i64 b3]] H (fun v h' => v = .tuple [.agg [.int .i64 (mLo (listS S n) b1 + b2), .int .i64 (mHi (listS S n) b1 + b3)], .int .i64 0] ∧ h' = H) := by
  have := c_AtV H (listS S n) id 0 ex b1 b2 b3 (rd_S hh) hv hp
  rwa [listS_length] at this
theorem sumF_more {f g : Nat → Int} {i : Nat} {d : Int} : ∀ {k : Nat}, (∀ j, j < k → g j = if j = i then f j + d else f j) → sumF g 0 k = sumF f 0 k + if i < k then d else 0
  | 0, _ => by simp [sumF]
  | k + 1, h => by
    have h1 := sumF_more (k := k) fun j hj => h j (by omega)
    have h2 := h k (by omega)
    simp only [sumF, Nat.zero_add, h1, h2]
    by_cases e : k = i
    · subst e; simp; omega
    · by_cases e2 : i < k
      · rw [if_neg e, if_pos e2, if_pos (by omega)]; omega
      · rw [if_neg e, if_neg e2, if_neg (by omega)]; omega
def bigS (l : List Str) (i : Nat) (d : Int) : Nat → Str := updS (strAt l) i { strAt l i with lLo := (strAt l i).lLo + d, lHi := (strAt l i).lHi + d }
theorem big_lo {l : List Str} {i : Nat} {d : Int} {k : Nat} (hk : k ≤ l.length) : mLo (listS (bigS l i d) l.length) k = mLo l k + if i < k then d else 0 := by
  refine sumF_more fun j hj => ?_
  show (strAt (listS (bigS l i d) l.length) j).lLo = if j = i then (strAt l j).lLo + d else (strAt l j).lLo
  rw [listS_get _ (by omega)]
  unfold bigS updS
  by_cases h : j = i
  · subst h; simp
  · simp [h]
theorem big_hi {l : List Str} {i : Nat} {d : Int} {k : Nat} (hk : k ≤ l.length) : mHi (listS (bigS l i d) l.length) k = mHi l k + if i < k then d else 0 := by
  refine sumF_more fun j hj => ?_
  show (strAt (listS (bigS l i d) l.length) j).lHi = if j = i then (strAt l j).lHi + d else (strAt l j).lHi
  rw [listS_get _ (by omega)]
  unfold bigS updS
  by_cases h : j = i
  · subst h; simp
  · simp [h]
theorem big_fall {l : List Str} {i : Nat} {d : Int} : sumF (kLo kFall (listS (bigS l i d) l.length)) 0 l.length = sumF (kLo kFall l) 0 l.length ∧ sumF (kHi kFall (listS (bigS l i d) l.length)) 0 l.length = sumF (kHi kFall l) 0 l.length := by
  constructor
  · refine sumF_congr fun j hj => ?_
    show (strAt (listS (bigS l i d) l.length) (0 + j)).fLo = (strAt l (0 + j)).fLo
    rw [listS_get _ (by omega)]
    unfold bigS updS
    by_cases h : 0 + j = i
    · simp [h]
    · simp only [h, if_false]
  · refine sumF_congr fun j hj => ?_
    show (strAt (listS (bigS l i d) l.length) (0 + j)).fHi = (strAt l (0 + j)).fHi
    rw [listS_get _ (by omega)]
    unfold bigS updS
    by_cases h : 0 + j = i
    · simp [h]
    · simp only [h, if_false]

set_option maxHeartbeats 4000000 in
theorem c_lawLonger (H : Heap) (l : List Str) (which by_ : Int) (us : List Int) (id off bid boff : Nat) (ex bex : Bool) (hs : rd H id off (l.length * 9) = some (l.flatMap Str.av))
    (hb : rd H bid boff us.length = some (us.map (.int .u32))) (h1 : 0 ≤ which ∧ which ≤ 255) (h2 : 0 ≤ by_ ∧ by_ ≤ 65535) (hu : ∀ u ∈ us, 0 ≤ u ∧ u ≤ 4294967295) (hn : (us.length : Int) ≤ 9223372036854775807) :
    ACalls Try.prog F.law01_TrackLonger [.agg [.slice id off l.length 9 ex], .int .u8 which, .int .u16 by_, .slice bid boff us.length 1 bex] H (fun v _ => v = .bool true) := by
  refine acalls_of ok_law01_TrackLonger rfl fun hcl => ?_
  unfold ac_law01_TrackLonger
  simp only [argsT, Nat.zero_add, Nat.reduceAdd]
  have hid := rd_lt hs
  have hbid := rd_lt hb
  repeat (first
   |(with_reducible first|apply X1|apply X2|apply X3|apply X4|apply X5|apply X6|apply X7|apply X8|apply X9|apply Y1|apply Y2|apply Y3|apply Y4|apply Y5|apply Y6|apply Y7|apply Y8|apply Y9)
   |((with_reducible apply q_block_other);decide)
   |((with_reducible first|apply e_end|apply d_end);(simp;exact Red.rfl))
   |((first|((with_reducible apply O1);rfl)|((with_reducible apply O2);rfl)|((with_reducible apply P1);rfl)|((with_reducible apply P2);rfl)|((with_reducible apply P3);rfl)|((with_reducible apply P4);rfl)|((with_reducible apply P5);rfl));(simp (disch:=omega);exact Red.rfl);exact Red.rfl;(focus (first|(simp;done)|omega|(simp;omega))))
   |((with_reducible first|apply Z7|apply Z8|apply Z9);(simp (disch:=omega);exact Red.rfl))
   |((with_reducible first|apply Z1|apply Z2|apply Z3|apply Z4|apply Z5|apply Z6);(simp (disch:=omega);exact Red.rfl))
   |((with_reducible first|apply W1|apply W2|apply W3);(simp (disch:=omega);exact Red.rfl))
   |((with_reducible apply P6);rfl;(simp (disch:=omega);exact Red.rfl);exact Red.rfl;(focus (first|(simp [pr];done)|(simp [pr];omega))))
   |((with_reducible apply P7);rfl;(simp (disch:=omega);exact Red.rfl);exact Red.rfl;(focus (simp [repast, pr, AOp.sem];done))))
  (with_reducible apply e_call); (simp; exact Red.rfl); exact c_aliveT _
  rintro _ _ ⟨rfl, rfl⟩
  repeat (first
   |(with_reducible first|apply X1|apply X2|apply X3|apply X4|apply X5|apply X6|apply X7|apply X8|apply X9|apply Y1|apply Y2|apply Y3|apply Y4|apply Y5|apply Y6|apply Y7|apply Y8|apply Y9)
   |((with_reducible apply q_block_other);decide)
   |((with_reducible first|apply e_end|apply d_end);(simp;exact Red.rfl))
   |((first|((with_reducible apply O1);rfl)|((with_reducible apply O2);rfl)|((with_reducible apply P1);rfl)|((with_reducible apply P2);rfl)|((with_reducible apply P3);rfl)|((with_reducible apply P4);rfl)|((with_reducible apply P5);rfl));(simp (disch:=omega);exact Red.rfl);exact Red.rfl;(focus (first|(simp;done)|omega|(simp;omega))))
   |((with_reducible first|apply Z7|apply Z8|apply Z9);(simp (disch:=omega);exact Red.rfl))
   |((with_reducible first|apply Z1|apply Z2|apply Z3|apply Z4|apply Z5|apply Z6);(simp (disch:=omega);exact Red.rfl))
   |((with_reducible first|apply W1|apply W2|apply W3);(simp (disch:=omega);exact Red.rfl))
   |((with_reducible apply P6);rfl;(simp (disch:=omega);exact Red.rfl);exact Red.rfl;(focus (first|(simp [pr];done)|(simp [pr];omega))))
   |((with_reducible apply P7);rfl;(simp (disch:=omega);exact Red.rfl);exact Red.rfl;(focus (simp [repast, pr, AOp.sem];done))))
  (with_reducible apply e_call); (simp; exact Red.rfl); exact c_ready _ l id off ex (by rw [rd_old _ hid]; exact hs)
  rintro _ _ ⟨rfl, b, rfl, hbv⟩
  cases b with
  | false =>
    repeat (first
     |(with_reducible first|apply X1|apply X2|apply X3|apply X4|apply X5|apply X6|apply X7|apply X8|apply X9|apply Y1|apply Y2|apply Y3|apply Y4|apply Y5|apply Y6|apply Y7|apply Y8|apply Y9)
     |((with_reducible apply q_block_other);decide)
     |((with_reducible first|apply e_end|apply d_end);(simp;exact Red.rfl))
     |((first|((with_reducible apply O1);rfl)|((with_reducible apply O2);rfl)|((with_reducible apply P1);rfl)|((with_reducible apply P2);rfl)|((with_reducible apply P3);rfl)|((with_reducible apply P4);rfl)|((with_reducible apply P5);rfl));(simp (disch:=omega);exact Red.rfl);exact Red.rfl;(focus (first|(simp;done)|omega|(simp;omega))))
     |((with_reducible first|apply Z7|apply Z8|apply Z9);(simp (disch:=omega);exact Red.rfl))
     |((with_reducible first|apply Z1|apply Z2|apply Z3|apply Z4|apply Z5|apply Z6);(simp (disch:=omega);exact Red.rfl))
     |((with_reducible first|apply W1|apply W2|apply W3);(simp (disch:=omega);exact Red.rfl))
     |((with_reducible apply P6);rfl;(simp (disch:=omega);exact Red.rfl);exact Red.rfl;(focus (first|(simp [pr];done)|(simp [pr];omega))))
     |((with_reducible apply P7);rfl;(simp (disch:=omega);exact Red.rfl);exact Red.rfl;(focus (simp [repast, pr, AOp.sem];done))))
    exact q_drop (.inr rfl) (by simp; exact Red.rfl) (by simp) rfl
  | true =>
    have hv := hbv.1 rfl
    have h12 := hv.1
    obtain ⟨i, hi, hi2⟩ := mod_exn (n := (l.length : Int)) h1.1 (by omega)
    have hi3 : i < l.length := by omega
    have hne : ¬ ((l.length : Int) = 0) := by omega
    have hne2 : ¬ (l = []) := by rintro rfl; simp at hi3
    have hL := lLo_bd hv hi3
    have f := flat_eq l
    have hl := lenS (strAt l) l.length
    have le1 : i * 9 + 2 ≤ l.length * 9 := by omega
    have le2 : i * 9 + 3 ≤ l.length * 9 := by omega
    have hA1 : ((avR (fun j => (strAt l j).av) l.length).drop (i * 9 + 1)).take 1 = [.int .i64 (strAt l i).lLo] := partS (strAt l) hi3 (by decide)
    have hA2 : ((avR (fun j => (strAt l j).av) l.length).drop (i * 9 + 2)).take 1 = [.int .i64 (strAt l i).lHi] := partS (strAt l) hi3 (by decide)
    have wA : splice (avR (fun j => (strAt l j).av) l.length) (i * 9 + 1) [.int .i64 ((strAt l i).lLo + by_), .int .i64 ((strAt l i).lHi + by_)] = avR (fun j => (bigS l i by_ j).av) l.length := putS (strAt l) _ hi3 (by simp) rfl
    repeat (first
     |(with_reducible first|apply X1|apply X2|apply X3|apply X4|apply X5|apply X6|apply X7|apply X8|apply X9|apply Y1|apply Y2|apply Y3|apply Y4|apply Y5|apply Y6|apply Y7|apply Y8|apply Y9)
     |((with_reducible apply q_block_other);decide)
     |((with_reducible first|apply e_end|apply d_end);(simp;exact Red.rfl))
     |((first|((with_reducible apply O1);rfl)|((with_reducible apply O2);rfl)|((with_reducible apply P1);rfl)|((with_reducible apply P2);rfl)|((with_reducible apply P3);rfl)|((with_reducible apply P4);rfl)|((with_reducible apply P5);rfl));(simp (disch:=omega) [hi, hne, hne2];exact Red.rfl);exact Red.rfl;(focus (first|(simp;done)|omega|(simp;omega))))
     |((with_reducible first|apply Z7|apply Z8|apply Z9);(simp (disch:=omega) [hi, hne, hne2];exact Red.rfl))
     |((with_reducible first|apply Z1|apply Z2|apply Z3|apply Z4|apply Z5|apply Z6);(simp (disch:=omega) [hi, hne, hne2];exact Red.rfl))
     |((with_reducible first|apply W1|apply W2|apply W3);(simp (disch:=omega) [hi, hne, hne2];exact Red.rfl))
     |((with_reducible apply P6);rfl;(simp (disch:=omega) [hi, hne, hne2];exact Red.rfl);exact Red.rfl;(focus (first|(simp [pr];done)|(simp [pr];omega))))
     |((with_reducible apply P7);rfl;(simp (disch:=omega) [hi, hne, hne2];exact Red.rfl);exact Red.rfl;(focus (simp [repast, pr, AOp.sem];done))))
    (with_reducible apply e_call); (simp; exact Red.rfl); exact c_Twin _ l id off ex (by rw [rd_old _ hid]; exact hs) (by omega)
    rintro _ _ ⟨rfl, rfl⟩
    repeat (first
     |(with_reducible first|apply X1|apply X2|apply X3|apply X4|apply X5|apply X6|apply X7|apply X8|apply X9|apply Y1|apply Y2|apply Y3|apply Y4|apply Y5|apply Y6|apply Y7|apply Y8|apply Y9)
     |((with_reducible apply q_block_other);decide)
     |((with_reducible first|apply e_end|apply d_end);(simp;exact Red.rfl))
     |((first|((with_reducible apply O1);rfl)|((with_reducible apply O2);rfl)|((with_reducible apply P1);rfl)|((with_reducible apply P2);rfl)|((with_reducible apply P3);rfl)|((with_reducible apply P4);rfl)|((with_reducible apply P5);rfl));(simp (disch:=omega) [f, hi3, -splice, hl, le1, le2, hA1, hA2, wA];exact Red.rfl);exact Red.rfl;(focus (first|(simp;done)|omega|(simp;omega))))
     |((with_reducible first|apply Z7|apply Z8|apply Z9);(simp (disch:=omega) [f, hi3, -splice, hl, le1, le2, hA1, hA2, wA];exact Red.rfl))
     |((with_reducible first|apply Z1|apply Z2|apply Z3|apply Z4|apply Z5|apply Z6);(simp (disch:=omega) [f, hi3, -splice, hl, le1, le2, hA1, hA2, wA];exact Red.rfl))
     |((with_reducible first|apply W1|apply W2|apply W3);(simp (disch:=omega) [f, hi3, -splice, hl, le1, le2, hA1, hA2, wA];exact Red.rfl))
     |((with_reducible apply P6);rfl;(simp (disch:=omega) [f, hi3, -splice, hl, le1, le2, hA1, hA2, wA];exact Red.rfl);exact Red.rfl;(focus (first|(simp [pr];done)|(simp [pr];omega))))
     |((with_reducible apply P7);rfl;(simp (disch:=omega) [f, hi3, -splice, hl, le1, le2, hA1, hA2, wA];exact Red.rfl);exact Red.rfl;(focus (simp [repast, pr, AOp.sem];done))))
    (with_reducible apply d_call); (simp; exact Red.rfl); exact c_span _ _ _; (focus (first | (simp; done) | (simp; omega)))
    repeat (first
     |(with_reducible first|apply X1|apply X2|apply X3|apply X4|apply X5|apply X6|apply X7|apply X8|apply X9|apply Y1|apply Y2|apply Y3|apply Y4|apply Y5|apply Y6|apply Y7|apply Y8|apply Y9)
     |((with_reducible apply q_block_other);decide)
     |((with_reducible first|apply e_end|apply d_end);(simp;exact Red.rfl))
     |((first|((with_reducible apply O1);rfl)|((with_reducible apply O2);rfl)|((with_reducible apply P1);rfl)|((with_reducible apply P2);rfl)|((with_reducible apply P3);rfl)|((with_reducible apply P4);rfl)|((with_reducible apply P5);rfl));(simp (disch:=omega) [f, hi3, -splice, hl, le1, le2, hA1, hA2, wA];exact Red.rfl);exact Red.rfl;(focus (first|(simp;done)|omega|(simp;omega))))
     |((with_reducible first|apply Z7|apply Z8|apply Z9);(simp (disch:=omega) [f, hi3, -splice, hl, le1, le2, hA1, hA2, wA];exact Red.rfl))
     |((with_reducible first|apply Z1|apply Z2|apply Z3|apply Z4|apply Z5|apply Z6);(simp (disch:=omega) [f, hi3, -splice, hl, le1, le2, hA1, hA2, wA];exact Red.rfl))
     |((with_reducible first|apply W1|apply W2|apply W3);(simp (disch:=omega) [f, hi3, -splice, hl, le1, le2, hA1, hA2, wA];exact Red.rfl))
     |((with_reducible apply P6);rfl;(simp (disch:=omega) [f, hi3, -splice, hl, le1, le2, hA1, hA2, wA];exact Red.rfl);exact Red.rfl;(focus (first|(simp [pr];done)|(simp [pr];omega))))
     |((with_reducible apply P7);rfl;(simp (disch:=omega) [f, hi3, -splice, hl, le1, le2, hA1, hA2, wA];exact Red.rfl);exact Red.rfl;(focus (simp [repast, pr, AOp.sem];done))))
    (with_reducible apply e_call); (simp; exact Red.rfl); exact c_rTrackS _ (bigS l i by_) _ _ true _ (by simp) (by omega)
    rintro _ _ ⟨rfl, bb, rfl, hbb⟩
    cases bb with
    | false =>
      repeat (first
       |(with_reducible first|apply X1|apply X2|apply X3|apply X4|apply X5|apply X6|apply X7|apply X8|apply X9|apply Y1|apply Y2|apply Y3|apply Y4|apply Y5|apply Y6|apply Y7|apply Y8|apply Y9)
       |((with_reducible apply q_block_other);decide)
       |((with_reducible first|apply e_end|apply d_end);(simp;exact Red.rfl))
       |((first|((with_reducible apply O1);rfl)|((with_reducible apply O2);rfl)|((with_reducible apply P1);rfl)|((with_reducible apply P2);rfl)|((with_reducible apply P3);rfl)|((with_reducible apply P4);rfl)|((with_reducible apply P5);rfl));(simp (disch:=omega);exact Red.rfl);exact Red.rfl;(focus (first|(simp;done)|omega|(simp;omega))))
       |((with_reducible first|apply Z7|apply Z8|apply Z9);(simp (disch:=omega);exact Red.rfl))
       |((with_reducible first|apply Z1|apply Z2|apply Z3|apply Z4|apply Z5|apply Z6);(simp (disch:=omega);exact Red.rfl))
       |((with_reducible first|apply W1|apply W2|apply W3);(simp (disch:=omega);exact Red.rfl))
       |((with_reducible apply P6);rfl;(simp (disch:=omega);exact Red.rfl);exact Red.rfl;(focus (first|(simp [pr];done)|(simp [pr];omega))))
       |((with_reducible apply P7);rfl;(simp (disch:=omega);exact Red.rfl);exact Red.rfl;(focus (simp [repast, pr, AOp.sem];done))))
      exact q_drop (.inr rfl) (by simp; exact Red.rfl) (by simp) rfl
    | true =>
      have hvb := hbb.1 rfl
      repeat (first
       |(with_reducible first|apply X1|apply X2|apply X3|apply X4|apply X5|apply X6|apply X7|apply X8|apply X9|apply Y1|apply Y2|apply Y3|apply Y4|apply Y5|apply Y6|apply Y7|apply Y8|apply Y9)
       |((with_reducible apply q_block_other);decide)
       |((with_reducible first|apply e_end|apply d_end);(simp;exact Red.rfl))
       |((first|((with_reducible apply O1);rfl)|((with_reducible apply O2);rfl)|((with_reducible apply P1);rfl)|((with_reducible apply P2);rfl)|((with_reducible apply P3);rfl)|((with_reducible apply P4);rfl)|((with_reducible apply P5);rfl));(simp (disch:=omega);exact Red.rfl);exact Red.rfl;(focus (first|(simp;done)|omega|(simp;omega))))
       |((with_reducible first|apply Z7|apply Z8|apply Z9);(simp (disch:=omega);exact Red.rfl))
       |((with_reducible first|apply Z1|apply Z2|apply Z3|apply Z4|apply Z5|apply Z6);(simp (disch:=omega);exact Red.rfl))
       |((with_reducible first|apply W1|apply W2|apply W3);(simp (disch:=omega);exact Red.rfl))
       |((with_reducible apply P6);rfl;(simp (disch:=omega);exact Red.rfl);exact Red.rfl;(focus (first|(simp [pr];done)|(simp [pr];omega))))
       |((with_reducible apply P7);rfl;(simp (disch:=omega);exact Red.rfl);exact Red.rfl;(focus (simp [repast, pr, AOp.sem];done))))
      (with_reducible apply e_call); (simp; exact Red.rfl); exact c_Marks _ l id off ex (by rw [rd_old _ hid]; exact hs) hv
      rintro _ _ ⟨rfl, rfl⟩
      repeat (first
       |(with_reducible first|apply X1|apply X2|apply X3|apply X4|apply X5|apply X6|apply X7|apply X8|apply X9|apply Y1|apply Y2|apply Y3|apply Y4|apply Y5|apply Y6|apply Y7|apply Y8|apply Y9)
       |((with_reducible apply q_block_other);decide)
       |((with_reducible first|apply e_end|apply d_end);(simp;exact Red.rfl))
       |((first|((with_reducible apply O1);rfl)|((with_reducible apply O2);rfl)|((with_reducible apply P1);rfl)|((with_reducible apply P2);rfl)|((with_reducible apply P3);rfl)|((with_reducible apply P4);rfl)|((with_reducible apply P5);rfl));(simp (disch:=omega);exact Red.rfl);exact Red.rfl;(focus (first|(simp;done)|omega|(simp;omega))))
       |((with_reducible first|apply Z7|apply Z8|apply Z9);(simp (disch:=omega);exact Red.rfl))
       |((with_reducible first|apply Z1|apply Z2|apply Z3|apply Z4|apply Z5|apply Z6);(simp (disch:=omega);exact Red.rfl))
       |((with_reducible first|apply W1|apply W2|apply W3);(simp (disch:=omega);exact Red.rfl))
       |((with_reducible apply P6);rfl;(simp (disch:=omega);exact Red.rfl);exact Red.rfl;(focus (first|(simp [pr];done)|(simp [pr];omega))))
       |((with_reducible apply P7);rfl;(simp (disch:=omega);exact Red.rfl);exact Red.rfl;(focus (simp [repast, pr, AOp.sem];done))))
      (with_reducible apply e_call); (simp; exact Red.rfl); exact c_MarksS _ (bigS l i by_) _ _ true _ (by simp) hvb
      rintro _ _ ⟨rfl, rfl⟩
      repeat (first
       |(with_reducible first|apply X1|apply X2|apply X3|apply X4|apply X5|apply X6|apply X7|apply X8|apply X9|apply Y1|apply Y2|apply Y3|apply Y4|apply Y5|apply Y6|apply Y7|apply Y8|apply Y9)
       |((with_reducible apply q_block_other);decide)
       |((with_reducible first|apply e_end|apply d_end);(simp;exact Red.rfl))
       |((first|((with_reducible apply O1);rfl)|((with_reducible apply O2);rfl)|((with_reducible apply P1);rfl)|((with_reducible apply P2);rfl)|((with_reducible apply P3);rfl)|((with_reducible apply P4);rfl)|((with_reducible apply P5);rfl));(simp (disch:=omega);exact Red.rfl);exact Red.rfl;(focus (first|(simp;done)|omega|(simp;omega))))
       |((with_reducible first|apply Z7|apply Z8|apply Z9);(simp (disch:=omega);exact Red.rfl))
       |((with_reducible first|apply Z1|apply Z2|apply Z3|apply Z4|apply Z5|apply Z6);(simp (disch:=omega);exact Red.rfl))
       |((with_reducible first|apply W1|apply W2|apply W3);(simp (disch:=omega);exact Red.rfl))
       |((with_reducible apply P6);rfl;(simp (disch:=omega);exact Red.rfl);exact Red.rfl;(focus (first|(simp [pr];done)|(simp [pr];omega))))
       |((with_reducible apply P7);rfl;(simp (disch:=omega);exact Red.rfl);exact Red.rfl;(focus (simp [repast, pr, AOp.sem];done))))
      (with_reducible apply e_call); (simp; exact Red.rfl); exact c_Drop _ l id off ex 0 l.length (by rw [rd_old _ hid]; simpa using hs) hv (by omega) (by omega)
      rintro _ _ ⟨rfl, rfl⟩
      repeat (first
       |(with_reducible first|apply X1|apply X2|apply X3|apply X4|apply X5|apply X6|apply X7|apply X8|apply X9|apply Y1|apply Y2|apply Y3|apply Y4|apply Y5|apply Y6|apply Y7|apply Y8|apply Y9)
       |((with_reducible apply q_block_other);decide)
       |((with_reducible first|apply e_end|apply d_end);(simp;exact Red.rfl))
       |((first|((with_reducible apply O1);rfl)|((with_reducible apply O2);rfl)|((with_reducible apply P1);rfl)|((with_reducible apply P2);rfl)|((with_reducible apply P3);rfl)|((with_reducible apply P4);rfl)|((with_reducible apply P5);rfl));(simp (disch:=omega);exact Red.rfl);exact Red.rfl;(focus (first|(simp;done)|omega|(simp;omega))))
       |((with_reducible first|apply Z7|apply Z8|apply Z9);(simp (disch:=omega);exact Red.rfl))
       |((with_reducible first|apply Z1|apply Z2|apply Z3|apply Z4|apply Z5|apply Z6);(simp (disch:=omega);exact Red.rfl))
       |((with_reducible first|apply W1|apply W2|apply W3);(simp (disch:=omega);exact Red.rfl))
       |((with_reducible apply P6);rfl;(simp (disch:=omega);exact Red.rfl);exact Red.rfl;(focus (first|(simp [pr];done)|(simp [pr];omega))))
       |((with_reducible apply P7);rfl;(simp (disch:=omega);exact Red.rfl);exact Red.rfl;(focus (simp [repast, pr, AOp.sem];done))))
      (with_reducible apply e_call); (simp; exact Red.rfl); exact c_DropS _ (bigS l i by_) _ _ true _ 0 l.length (by simp) hvb (by omega) (by omega)
      rintro _ _ ⟨rfl, rfl⟩
      rw [Nat.sub_zero, big_fall.1, big_fall.2]
      repeat (first
       |(with_reducible first|apply X1|apply X2|apply X3|apply X4|apply X5|apply X6|apply X7|apply X8|apply X9|apply Y1|apply Y2|apply Y3|apply Y4|apply Y5|apply Y6|apply Y7|apply Y8|apply Y9)
       |((with_reducible apply q_block_other);decide)
       |((with_reducible first|apply e_end|apply d_end);(simp;exact Red.rfl))
       |((first|((with_reducible apply O1);rfl)|((with_reducible apply O2);rfl)|((with_reducible apply P1);rfl)|((with_reducible apply P2);rfl)|((with_reducible apply P3);rfl)|((with_reducible apply P4);rfl)|((with_reducible apply P5);rfl));(simp (disch:=omega);exact Red.rfl);exact Red.rfl;(focus (first|(simp;done)|omega|(simp;omega))))
       |((with_reducible first|apply Z7|apply Z8|apply Z9);(simp (disch:=omega);exact Red.rfl))
       |((with_reducible first|apply Z1|apply Z2|apply Z3|apply Z4|apply Z5|apply Z6);(simp (disch:=omega);exact Red.rfl))
       |((with_reducible first|apply W1|apply W2|apply W3);(simp (disch:=omega);exact Red.rfl))
       |((with_reducible apply P6);rfl;(simp (disch:=omega);exact Red.rfl);exact Red.rfl;(focus (first|(simp [pr];done)|(simp [pr];omega))))
       |((with_reducible apply P7);rfl;(simp (disch:=omega);exact Red.rfl);exact Red.rfl;(focus (simp [repast, pr, AOp.sem];done))))
      have plB := (plain_fun (bigS l i by_)).plain l.length
      have plA := (plain_r2 (mLo l) (mHi l)).plain (l.length + 1)
      have plM := (plain_r2 (mLo (listS (bigS l i by_) l.length)) (mHi (listS (bigS l i by_) l.length))).plain (l.length + 1)
      refine e_loop (ι := { k : Nat // k ≤ l.length + 1 })
        (fun k => [(3, .slice bid boff us.length 1 bex), (4, .ptr H.length 0), (9, .bool true), (10, .int .i64 i), (11, .int .i64 by_), (12, .ptr (H.length + 2) 0), (14, .slice (H.length + 3) 0 (l.length + 1) 2 false), (16, .slice (H.length + 4) 0 (l.length + 1) 2 false), (139, .int .i64 ((l.length : Int) + 1)), (140, .int .i64 k.1)])
        (fun _ => H ++ [.cells [.slice id off l.length 9 ex] true, .cells (avR (fun j => (bigS l i by_ j).av) l.length) true, .cells [.slice (H.length + 1) 0 l.length 9 false] true, .cells (avR (r2 (mLo l) (mHi l)) (l.length + 1)) true,
          .cells (avR (r2 (mLo (listS (bigS l i by_) l.length)) (mHi (listS (bigS l i by_) l.length))) (l.length + 1)) true]) (fun k => l.length + 1 - k.1) ⟨0, by simp⟩ ?_ ?_
      · exact .inr <| le_to0 [0, 1, 2, 3, 4] (by simp) (by simp [KeepAll, sh, AObj.ren, AV.ren, renL, plA.sc, plA.ren, plB.sc, plB.ren, plM.sc, plM.ren]; omega) (by simp [sh, AV.ren, hbid]; omega)
      rintro ⟨k, hk⟩
      dsimp only
      by_cases hlt : k < l.length + 1
      · have hlt2 : (k : Int) < (l.length : Int) + 1 := by omega
        have hlA := (plain_r2 (mLo l) (mHi l)).length (l.length + 1)
        have hlM := (plain_r2 (mLo (listS (bigS l i by_) l.length)) (mHi (listS (bigS l i by_) l.length))).length (l.length + 1)
        have l1 : k * 2 + 1 ≤ (l.length + 1) * 2 := by omega
        have l2 : k * 2 + 2 ≤ (l.length + 1) * 2 := by omega
        have rM := (plain_r2 (mLo (listS (bigS l i by_) l.length)) (mHi (listS (bigS l i by_) l.length))).row hlt
        have rA : ((avR (r2 (mLo l) (mHi l)) (l.length + 1)).drop (k * 2)).take 1 = [.int .i64 (mLo l k)] := (plain_r2 (mLo l) (mHi l)).part (c := 0) (m := 1) hlt (by decide)
        have rB : ((avR (r2 (mLo l) (mHi l)) (l.length + 1)).drop (k * 2 + 1)).take 1 = [.int .i64 (mHi l k)] := (plain_r2 (mLo l) (mHi l)).part (c := 1) (m := 1) hlt (by decide)
        have e1 := big_lo (i := i) (d := by_) (show k ≤ l.length by omega)
        have e2 := big_hi (i := i) (d := by_) (show k ≤ l.length by omega)
        have bd := mark_bd hv (show k ≤ l.length by omega)
        by_cases hki : i < k
        · rw [if_pos hki] at e1 e2
          repeat (first
           |(with_reducible first|apply X1|apply X2|apply X3|apply X4|apply X5|apply X6|apply X7|apply X8|apply X9|apply Y1|apply Y2|apply Y3|apply Y4|apply Y5|apply Y6|apply Y7|apply Y8|apply Y9)
           |((with_reducible apply q_block_other);decide)
           |((with_reducible first|apply e_end|apply d_end);(simp;exact Red.rfl))
           |((first|((with_reducible apply O1);rfl)|((with_reducible apply O2);rfl)|((with_reducible apply P1);rfl)|((with_reducible apply P2);rfl)|((with_reducible apply P3);rfl)|((with_reducible apply P4);rfl)|((with_reducible apply P5);rfl));(simp (disch:=omega) [hlt, hlt2, hki, hlA, hlM, l1, l2, rM, rA, rB, r2, e1, e2];exact Red.rfl);exact Red.rfl;(focus (first|(simp;done)|omega|(simp;omega))))
           |((with_reducible first|apply Z7|apply Z8|apply Z9);(simp (disch:=omega) [hlt, hlt2, hki, hlA, hlM, l1, l2, rM, rA, rB, r2, e1, e2];exact Red.rfl))
           |((with_reducible first|apply Z1|apply Z2|apply Z3|apply Z4|apply Z5|apply Z6);(simp (disch:=omega) [hlt, hlt2, hki, hlA, hlM, l1, l2, rM, rA, rB, r2, e1, e2];exact Red.rfl))
           |((with_reducible first|apply W1|apply W2|apply W3);(simp (disch:=omega) [hlt, hlt2, hki, hlA, hlM, l1, l2, rM, rA, rB, r2, e1, e2];exact Red.rfl))
           |((with_reducible apply P6);rfl;(simp (disch:=omega) [hlt, hlt2, hki, hlA, hlM, l1, l2, rM, rA, rB, r2, e1, e2];exact Red.rfl);exact Red.rfl;(focus (first|(simp [pr];done)|(simp [pr];omega))))
           |((with_reducible apply P7);rfl;(simp (disch:=omega) [hlt, hlt2, hki, hlA, hlM, l1, l2, rM, rA, rB, r2, e1, e2];exact Red.rfl);exact Red.rfl;(focus (simp [repast, pr, AOp.sem];done))))
          (with_reducible apply d_call); (simp; exact Red.rfl); exact c_span _ _ _; (focus (first | (simp; done) | (simp; omega)))
          repeat (first
           |(with_reducible first|apply X1|apply X2|apply X3|apply X4|apply X5|apply X6|apply X7|apply X8|apply X9|apply Y1|apply Y2|apply Y3|apply Y4|apply Y5|apply Y6|apply Y7|apply Y8|apply Y9)
           |((with_reducible apply q_block_other);decide)
           |((with_reducible first|apply e_end|apply d_end);(simp;exact Red.rfl))
           |((first|((with_reducible apply O1);rfl)|((with_reducible apply O2);rfl)|((with_reducible apply P1);rfl)|((with_reducible apply P2);rfl)|((with_reducible apply P3);rfl)|((with_reducible apply P4);rfl)|((with_reducible apply P5);rfl));(simp (disch:=omega) [hlt, hlt2, hki, hlA, hlM, l1, l2, rM, rA, rB, r2, e1, e2];exact Red.rfl);exact Red.rfl;(focus (first|(simp;done)|omega|(simp;omega))))
           |((with_reducible first|apply Z7|apply Z8|apply Z9);(simp (disch:=omega) [hlt, hlt2, hki, hlA, hlM, l1, l2, rM, rA, rB, r2, e1, e2];exact Red.rfl))
           |((with_reducible first|apply Z1|apply Z2|apply Z3|apply Z4|apply Z5|apply Z6);(simp (disch:=omega) [hlt, hlt2, hki, hlA, hlM, l1, l2, rM, rA, rB, r2, e1, e2];exact Red.rfl))
           |((with_reducible first|apply W1|apply W2|apply W3);(simp (disch:=omega) [hlt, hlt2, hki, hlA, hlM, l1, l2, rM, rA, rB, r2, e1, e2];exact Red.rfl))
           |((with_reducible apply P6);rfl;(simp (disch:=omega) [hlt, hlt2, hki, hlA, hlM, l1, l2, rM, rA, rB, r2, e1, e2];exact Red.rfl);exact Red.rfl;(focus (first|(simp [pr];done)|(simp [pr];omega))))
           |((with_reducible apply P7);rfl;(simp (disch:=omega) [hlt, hlt2, hki, hlA, hlM, l1, l2, rM, rA, rB, r2, e1, e2];exact Red.rfl);exact Red.rfl;(focus (simp [repast, pr, AOp.sem];done))))
          exact q_again ⟨k + 1, by omega⟩ (by dsimp only; omega) (.inr <| le_same (by simp [plA.sc, plB.sc, plM.sc]; omega) (by simp [Red]; omega))
        · rw [if_neg hki, Int.add_zero] at e1 e2
          repeat (first
           |(with_reducible first|apply X1|apply X2|apply X3|apply X4|apply X5|apply X6|apply X7|apply X8|apply X9|apply Y1|apply Y2|apply Y3|apply Y4|apply Y5|apply Y6|apply Y7|apply Y8|apply Y9)
           |((with_reducible apply q_block_other);decide)
           |((with_reducible first|apply e_end|apply d_end);(simp;exact Red.rfl))
           |((first|((with_reducible apply O1);rfl)|((with_reducible apply O2);rfl)|((with_reducible apply P1);rfl)|((with_reducible apply P2);rfl)|((with_reducible apply P3);rfl)|((with_reducible apply P4);rfl)|((with_reducible apply P5);rfl));(simp (disch:=omega) [hlt, hlt2, hki, hlA, hlM, l1, l2, rM, rA, rB, r2, e1, e2];exact Red.rfl);exact Red.rfl;(focus (first|(simp;done)|omega|(simp;omega))))
           |((with_reducible first|apply Z7|apply Z8|apply Z9);(simp (disch:=omega) [hlt, hlt2, hki, hlA, hlM, l1, l2, rM, rA, rB, r2, e1, e2];exact Red.rfl))
           |((with_reducible first|apply Z1|apply Z2|apply Z3|apply Z4|apply Z5|apply Z6);(simp (disch:=omega) [hlt, hlt2, hki, hlA, hlM, l1, l2, rM, rA, rB, r2, e1, e2];exact Red.rfl))
           |((with_reducible first|apply W1|apply W2|apply W3);(simp (disch:=omega) [hlt, hlt2, hki, hlA, hlM, l1, l2, rM, rA, rB, r2, e1, e2];exact Red.rfl))
           |((with_reducible apply P6);rfl;(simp (disch:=omega) [hlt, hlt2, hki, hlA, hlM, l1, l2, rM, rA, rB, r2, e1, e2];exact Red.rfl);exact Red.rfl;(focus (first|(simp [pr];done)|(simp [pr];omega))))
           |((with_reducible apply P7);rfl;(simp (disch:=omega) [hlt, hlt2, hki, hlA, hlM, l1, l2, rM, rA, rB, r2, e1, e2];exact Red.rfl);exact Red.rfl;(focus (simp [repast, pr, AOp.sem];done))))
          (with_reducible apply d_call); (simp; exact Red.rfl); exact c_span _ _ _; (focus (first | (simp; done) | (simp; omega)))
          repeat (first
           |(with_reducible first|apply X1|apply X2|apply X3|apply X4|apply X5|apply X6|apply X7|apply X8|apply X9|apply Y1|apply Y2|apply Y3|apply Y4|apply Y5|apply Y6|apply Y7|apply Y8|apply Y9)
           |((with_reducible apply q_block_other);decide)
           |((with_reducible first|apply e_end|apply d_end);(simp;exact Red.rfl))
           |((first|((with_reducible apply O1);rfl)|((with_reducible apply O2);rfl)|((with_reducible apply P1);rfl)|((with_reducible apply P2);rfl)|((with_reducible apply P3);rfl)|((with_reducible apply P4);rfl)|((with_reducible apply P5);rfl));(simp (disch:=omega) [hlt, hlt2, hki, hlA, hlM, l1, l2, rM, rA, rB, r2, e1, e2];exact Red.rfl);exact Red.rfl;(focus (first|(simp;done)|omega|(simp;omega))))
           |((with_reducible first|apply Z7|apply Z8|apply Z9);(simp (disch:=omega) [hlt, hlt2, hki, hlA, hlM, l1, l2, rM, rA, rB, r2, e1, e2];exact Red.rfl))
           |((with_reducible first|apply Z1|apply Z2|apply Z3|apply Z4|apply Z5|apply Z6);(simp (disch:=omega) [hlt, hlt2, hki, hlA, hlM, l1, l2, rM, rA, rB, r2, e1, e2];exact Red.rfl))
           |((with_reducible first|apply W1|apply W2|apply W3);(simp (disch:=omega) [hlt, hlt2, hki, hlA, hlM, l1, l2, rM, rA, rB, r2, e1, e2];exact Red.rfl))
           |((with_reducible apply P6);rfl;(simp (disch:=omega) [hlt, hlt2, hki, hlA, hlM, l1, l2, rM, rA, rB, r2, e1, e2];exact Red.rfl);exact Red.rfl;(focus (first|(simp [pr];done)|(simp [pr];omega))))
           |((with_reducible apply P7);rfl;(simp (disch:=omega) [hlt, hlt2, hki, hlA, hlM, l1, l2, rM, rA, rB, r2, e1, e2];exact Red.rfl);exact Red.rfl;(focus (simp [repast, pr, AOp.sem];done))))
          exact q_again ⟨k + 1, by omega⟩ (by dsimp only; omega) (.inr <| le_same (by simp [plA.sc, plB.sc, plM.sc]; omega) (by simp [Red]; omega))
      · have hlt2 : ¬ (k : Int) < (l.length : Int) + 1 := by omega
        repeat (first
         |(with_reducible first|apply X1|apply X2|apply X3|apply X4|apply X5|apply X6|apply X7|apply X8|apply X9|apply Y1|apply Y2|apply Y3|apply Y4|apply Y5|apply Y6|apply Y7|apply Y8|apply Y9)
         |((with_reducible apply q_block_other);decide)
         |((with_reducible first|apply e_end|apply d_end);(simp;exact Red.rfl))
         |((first|((with_reducible apply O1);rfl)|((with_reducible apply O2);rfl)|((with_reducible apply P1);rfl)|((with_reducible apply P2);rfl)|((with_reducible apply P3);rfl)|((with_reducible apply P4);rfl)|((with_reducible apply P5);rfl));(simp (disch:=omega) [hlt, hlt2];exact Red.rfl);exact Red.rfl;(focus (first|(simp;done)|omega|(simp;omega))))
         |((with_reducible first|apply Z7|apply Z8|apply Z9);(simp (disch:=omega) [hlt, hlt2];exact Red.rfl))
         |((with_reducible first|apply Z1|apply Z2|apply Z3|apply Z4|apply Z5|apply Z6);(simp (disch:=omega) [hlt, hlt2];exact Red.rfl))
         |((with_reducible first|apply W1|apply W2|apply W3);(simp (disch:=omega) [hlt, hlt2];exact Red.rfl))
         |((with_reducible apply P6);rfl;(simp (disch:=omega) [hlt, hlt2];exact Red.rfl);exact Red.rfl;(focus (first|(simp [pr];done)|(simp [pr];omega))))
         |((with_reducible apply P7);rfl;(simp (disch:=omega) [hlt, hlt2];exact Red.rfl);exact Red.rfl;(focus (simp [repast, pr, AOp.sem];done))))
        (with_reducible apply e_call); (simp; exact Red.rfl); exact c_spot _ l us id off bid boff 0 ex bex (by rw [rd_old _ hid]; exact hs) hv (by rw [rd_old _ hbid]; exact hb) hu hn (by omega)
        rintro _ _ ⟨rfl, kk, lo, hi_, rfl, hkk, hsp⟩
        have hspb : spotOK (listS (bigS l i by_) l.length) kk lo hi_ := by
          obtain ⟨s1, s2, s3, s4⟩ := hsp
          refine ⟨by rw [listS_length]; exact s1, s2, s3, ?_⟩
          simp only [Int.toNat_natCast] at s4 ⊢
          rw [listS_get _ hkk]
          unfold bigS updS
          split
          · rename_i h; subst h; simp only; omega
          · exact s4
        have e1 := big_lo (i := i) (d := by_) (show kk ≤ l.length by omega)
        have e2 := big_hi (i := i) (d := by_) (show kk ≤ l.length by omega)
        have bd := mark_bd hv (show kk ≤ l.length by omega)
        have hL2 := lLo_bd hv hkk
        have hsp4 := hsp.2
        simp only [Int.toNat_natCast] at hsp4
        repeat (first
         |(with_reducible first|apply X1|apply X2|apply X3|apply X4|apply X5|apply X6|apply X7|apply X8|apply X9|apply Y1|apply Y2|apply Y3|apply Y4|apply Y5|apply Y6|apply Y7|apply Y8|apply Y9)
         |((with_reducible apply q_block_other);decide)
         |((with_reducible first|apply e_end|apply d_end);(simp;exact Red.rfl))
         |((first|((with_reducible apply O1);rfl)|((with_reducible apply O2);rfl)|((with_reducible apply P1);rfl)|((with_reducible apply P2);rfl)|((with_reducible apply P3);rfl)|((with_reducible apply P4);rfl)|((with_reducible apply P5);rfl));(simp (disch:=omega);exact Red.rfl);exact Red.rfl;(focus (first|(simp;done)|omega|(simp;omega))))
         |((with_reducible first|apply Z7|apply Z8|apply Z9);(simp (disch:=omega);exact Red.rfl))
         |((with_reducible first|apply Z1|apply Z2|apply Z3|apply Z4|apply Z5|apply Z6);(simp (disch:=omega);exact Red.rfl))
         |((with_reducible first|apply W1|apply W2|apply W3);(simp (disch:=omega);exact Red.rfl))
         |((with_reducible apply P6);rfl;(simp (disch:=omega);exact Red.rfl);exact Red.rfl;(focus (first|(simp [pr];done)|(simp [pr];omega))))
         |((with_reducible apply P7);rfl;(simp (disch:=omega);exact Red.rfl);exact Red.rfl;(focus (simp [repast, pr, AOp.sem];done))))
        (with_reducible apply e_call); (simp; exact Red.rfl); exact c_AtV _ l id off ex kk lo hi_ (by rw [rd_old _ hid]; exact hs) hv hsp
        rintro _ _ ⟨rfl, rfl⟩
        repeat (first
         |(with_reducible first|apply X1|apply X2|apply X3|apply X4|apply X5|apply X6|apply X7|apply X8|apply X9|apply Y1|apply Y2|apply Y3|apply Y4|apply Y5|apply Y6|apply Y7|apply Y8|apply Y9)
         |((with_reducible apply q_block_other);decide)
         |((with_reducible first|apply e_end|apply d_end);(simp;exact Red.rfl))
         |((first|((with_reducible apply O1);rfl)|((with_reducible apply O2);rfl)|((with_reducible apply P1);rfl)|((with_reducible apply P2);rfl)|((with_reducible apply P3);rfl)|((with_reducible apply P4);rfl)|((with_reducible apply P5);rfl));(simp (disch:=omega);exact Red.rfl);exact Red.rfl;(focus (first|(simp;done)|omega|(simp;omega))))
         |((with_reducible first|apply Z7|apply Z8|apply Z9);(simp (disch:=omega);exact Red.rfl))
         |((with_reducible first|apply Z1|apply Z2|apply Z3|apply Z4|apply Z5|apply Z6);(simp (disch:=omega);exact Red.rfl))
         |((with_reducible first|apply W1|apply W2|apply W3);(simp (disch:=omega);exact Red.rfl))
         |((with_reducible apply P6);rfl;(simp (disch:=omega);exact Red.rfl);exact Red.rfl;(focus (first|(simp [pr];done)|(simp [pr];omega))))
         |((with_reducible apply P7);rfl;(simp (disch:=omega);exact Red.rfl);exact Red.rfl;(focus (simp [repast, pr, AOp.sem];done))))
        (with_reducible apply e_call); (simp; exact Red.rfl); exact c_AtSV _ (bigS l i by_) _ _ true _ kk lo hi_ (by simp) hvb hspb
        rintro _ _ ⟨rfl, rfl⟩
        by_cases hki : i < kk
        · rw [if_pos hki] at e1 e2
          have e3 : mLo (listS (bigS l i by_) l.length) kk + lo = mLo l kk + lo + by_ := by omega
          have e4 : mHi (listS (bigS l i by_) l.length) kk + hi_ = mHi l kk + hi_ + by_ := by omega
          repeat (first
           |(with_reducible first|apply X1|apply X2|apply X3|apply X4|apply X5|apply X6|apply X7|apply X8|apply X9|apply Y1|apply Y2|apply Y3|apply Y4|apply Y5|apply Y6|apply Y7|apply Y8|apply Y9)
           |((with_reducible apply q_block_other);decide)
           |((with_reducible first|apply e_end|apply d_end);(simp;exact Red.rfl))
           |((first|((with_reducible apply O1);rfl)|((with_reducible apply O2);rfl)|((with_reducible apply P1);rfl)|((with_reducible apply P2);rfl)|((with_reducible apply P3);rfl)|((with_reducible apply P4);rfl)|((with_reducible apply P5);rfl));(simp (disch:=omega) [hki, e3, e4];exact Red.rfl);exact Red.rfl;(focus (first|(simp;done)|omega|(simp;omega))))
           |((with_reducible first|apply Z7|apply Z8|apply Z9);(simp (disch:=omega) [hki, e3, e4];exact Red.rfl))
           |((with_reducible first|apply Z1|apply Z2|apply Z3|apply Z4|apply Z5|apply Z6);(simp (disch:=omega) [hki, e3, e4];exact Red.rfl))
           |((with_reducible first|apply W1|apply W2|apply W3);(simp (disch:=omega) [hki, e3, e4];exact Red.rfl))
           |((with_reducible apply P6);rfl;(simp (disch:=omega) [hki, e3, e4];exact Red.rfl);exact Red.rfl;(focus (first|(simp [pr];done)|(simp [pr];omega))))
           |((with_reducible apply P7);rfl;(simp (disch:=omega) [hki, e3, e4];exact Red.rfl);exact Red.rfl;(focus (simp [repast, pr, AOp.sem];done))))
          (with_reducible apply d_call); (simp; exact Red.rfl); exact c_span _ _ _; (focus (first | (simp; done) | (simp; omega)))
          repeat (first
           |(with_reducible first|apply X1|apply X2|apply X3|apply X4|apply X5|apply X6|apply X7|apply X8|apply X9|apply Y1|apply Y2|apply Y3|apply Y4|apply Y5|apply Y6|apply Y7|apply Y8|apply Y9)
           |((with_reducible apply q_block_other);decide)
           |((with_reducible first|apply e_end|apply d_end);(simp;exact Red.rfl))
           |((first|((with_reducible apply O1);rfl)|((with_reducible apply O2);rfl)|((with_reducible apply P1);rfl)|((with_reducible apply P2);rfl)|((with_reducible apply P3);rfl)|((with_reducible apply P4);rfl)|((with_reducible apply P5);rfl));(simp (disch:=omega) [hki, e3, e4];exact Red.rfl);exact Red.rfl;(focus (first|(simp;done)|omega|(simp;omega))))
           |((with_reducible first|apply Z7|apply Z8|apply Z9);(simp (disch:=omega) [hki, e3, e4];exact Red.rfl))
           |((with_reducible first|apply Z1|apply Z2|apply Z3|apply Z4|apply Z5|apply Z6);(simp (disch:=omega) [hki, e3, e4];exact Red.rfl))
           |((with_reducible first|apply W1|apply W2|apply W3);(simp (disch:=omega) [hki, e3, e4];exact Red.rfl))
           |((with_reducible apply P6);rfl;(simp (disch:=omega) [hki, e3, e4];exact Red.rfl);exact Red.rfl;(focus (first|(simp [pr];done)|(simp [pr];omega))))
           |((with_reducible apply P7);rfl;(simp (disch:=omega) [hki, e3, e4];exact Red.rfl);exact Red.rfl;(focus (simp [repast, pr, AOp.sem];done))))
          exact q_drop (.inr rfl) (by simp; exact Red.rfl) (by simp) rfl
        · rw [if_neg hki, Int.add_zero] at e1 e2
          repeat (first
           |(with_reducible first|apply X1|apply X2|apply X3|apply X4|apply X5|apply X6|apply X7|apply X8|apply X9|apply Y1|apply Y2|apply Y3|apply Y4|apply Y5|apply Y6|apply Y7|apply Y8|apply Y9)
           |((with_reducible apply q_block_other);decide)
           |((with_reducible first|apply e_end|apply d_end);(simp;exact Red.rfl))
           |((first|((with_reducible apply O1);rfl)|((with_reducible apply O2);rfl)|((with_reducible apply P1);rfl)|((with_reducible apply P2);rfl)|((with_reducible apply P3);rfl)|((with_reducible apply P4);rfl)|((with_reducible apply P5);rfl));(simp (disch:=omega) [hki, e1, e2];exact Red.rfl);exact Red.rfl;(focus (first|(simp;done)|omega|(simp;omega))))
           |((with_reducible first|apply Z7|apply Z8|apply Z9);(simp (disch:=omega) [hki, e1, e2];exact Red.rfl))
           |((with_reducible first|apply Z1|apply Z2|apply Z3|apply Z4|apply Z5|apply Z6);(simp (disch:=omega) [hki, e1, e2];exact Red.rfl))
           |((with_reducible first|apply W1|apply W2|apply W3);(simp (disch:=omega) [hki, e1, e2];exact Red.rfl))
           |((with_reducible apply P6);rfl;(simp (disch:=omega) [hki, e1, e2];exact Red.rfl);exact Red.rfl;(focus (first|(simp [pr];done)|(simp [pr];omega))))
           |((with_reducible apply P7);rfl;(simp (disch:=omega) [hki, e1, e2];exact Red.rfl);exact Red.rfl;(focus (simp [repast, pr, AOp.sem];done))))
          (with_reducible apply d_call); (simp; exact Red.rfl); exact c_span _ _ _; (focus (first | (simp; done) | (simp; omega)))
          repeat (first
           |(with_reducible first|apply X1|apply X2|apply X3|apply X4|apply X5|apply X6|apply X7|apply X8|apply X9|apply Y1|apply Y2|apply Y3|apply Y4|apply Y5|apply Y6|apply Y7|apply Y8|apply Y9)
           |((with_reducible apply q_block_other);decide)
           |((with_reducible first|apply e_end|apply d_end);(simp;exact Red.rfl))
           |((first|((with_reducible apply O1);rfl)|((with_reducible apply O2);rfl)|((with_reducible apply P1);rfl)|((with_reducible apply P2);rfl)|((with_reducible apply P3);rfl)|((with_reducible apply P4);rfl)|((with_reducible apply P5);rfl));(simp (disch:=omega) [hki, e1, e2];exact Red.rfl);exact Red.rfl;(focus (first|(simp;done)|omega|(simp;omega))))
           |((with_reducible first|apply Z7|apply Z8|apply Z9);(simp (disch:=omega) [hki, e1, e2];exact Red.rfl))
           |((with_reducible first|apply Z1|apply Z2|apply Z3|apply Z4|apply Z5|apply Z6);(simp (disch:=omega) [hki, e1, e2];exact Red.rfl))
           |((with_reducible first|apply W1|apply W2|apply W3);(simp (disch:=omega) [hki, e1, e2];exact Red.rfl))
           |((with_reducible apply P6);rfl;(simp (disch:=omega) [hki, e1, e2];exact Red.rfl);exact Red.rfl;(focus (first|(simp [pr];done)|(simp [pr];omega))))
           |((with_reducible apply P7);rfl;(simp (disch:=omega) [hki, e1, e2];exact Red.rfl);exact Red.rfl;(focus (simp [repast, pr, AOp.sem];done))))
          exact q_drop (.inr rfl) (by simp; exact Red.rfl) (by simp) rfl
end Go.Proofs
