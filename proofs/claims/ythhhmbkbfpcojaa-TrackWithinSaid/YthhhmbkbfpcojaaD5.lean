/- The law TrackWithin. -/
import Derived.Test.YthhhmbkbfpcojaaDD
import Derived.Test.YthhhmbkbfpcojaaRunTrackAlive
namespace Go.Proofs
open Go.Abs
attribute [local simp] AOp.den AOpd.ev lk cellsOf rd_new rd_new0 rd_zero rd_succ wr_new wr_new0 wr_zero wr_succ splice fillA binA scal sliceCells List.length_append argsT AV.sc scL AObj.sc resV getAll AR.get AOp.slots opdSlots opdsSlots partSlots eqAt at_new0 at_new set_new0 set_new wrap64
set_option linter.unusedSimpArgs false
set_option linter.unusedVariables false
theorem c_alive (H : Heap) : ACalls Try.prog F.law01_alive [] H (fun v h => v = .bool true ∧ h = H) := Try.true15 H
theorem mod_ex {a : Int} {n : Nat} (h0 : 0 ≤ a) : ∃ x : Nat, a.tmod ((n : Int) + 1) = x ∧ x ≤ n := by
  have h1 := Int.emod_nonneg a (show (n : Int) + 1 ≠ 0 by omega)
  have h2 := Int.emod_lt_of_pos a (show 0 < (n : Int) + 1 by omega)
  have h3 : a.tmod ((n : Int) + 1) = a % ((n : Int) + 1) := Int.tmod_eq_emod_of_nonneg h0
  exact ⟨(a % ((n : Int) + 1)).toNat, by rw [h3]; omega, by omega⟩

theorem long_in {l : List Str} (hv : validL l) (us : List Int) {j : Nat} (hj : j < l.length) : kLo kLong l j ≤ longF us l j ∧ longF us l j ≤ kHi kLong l j ∧ 1 ≤ longF us l j ∧ longF us l j ≤ 30000 := by
  have ho := (hv.2 j hj).2.1.2.2.1
  have e := strAt_eq hj
  have := someF_in (b := chooseF us (2 * j)) (show (strAt l j).lLo ≤ (strAt l j).lHi by rw [e]; exact ho.1)
  simp only [kLo, kHi, kLong, longF]
  rw [e] at this ⊢
  omega
theorem fall_in {l : List Str} (hv : validL l) (us : List Int) {j : Nat} (hj : j < l.length) : kLo kFall l j ≤ fallF us l j ∧ fallF us l j ≤ kHi kFall l j ∧ 0 ≤ fallF us l j ∧ fallF us l j ≤ 5000 := by
  have ho := (hv.2 j hj).2.1.2.2.2.1
  have e := strAt_eq hj
  have := someF_in (b := chooseF us (2 * j + 1)) (show (strAt l j).fLo ≤ (strAt l j).fHi by rw [e]; exact ho.1)
  simp only [kLo, kHi, kFall, fallF]
  rw [e] at this ⊢
  omega
theorem mLo_eq (l : List Str) (i : Nat) : mLo l i = sumF (kLo kLong l) 0 i := rfl
theorem mHi_eq (l : List Str) (i : Nat) : mHi l i = sumF (kHi kLong l) 0 i := rfl
theorem longs_in {l : List Str} (hv : validL l) (us : List Int) {a n : Nat} (h : a + n ≤ l.length) : sumF (kLo kLong l) a n ≤ sumF (longF us l) a n ∧ sumF (longF us l) a n ≤ sumF (kHi kLong l) a n :=
  ⟨sumF_le fun j hj => (long_in hv us (by omega)).1, sumF_le fun j hj => (long_in hv us (by omega)).2.1⟩
theorem falls_in {l : List Str} (hv : validL l) (us : List Int) {a n : Nat} (h : a + n ≤ l.length) : sumF (kLo kFall l) a n ≤ sumF (fallF us l) a n ∧ sumF (fallF us l) a n ≤ sumF (kHi kFall l) a n :=
  ⟨sumF_le fun j hj => (fall_in hv us (by omega)).1, sumF_le fun j hj => (fall_in hv us (by omega)).2.1⟩

def lowT (s : Str) : Str := { s with lHi := s.lLo, fHi := s.fLo }
def highT (s : Str) : Str := { s with lLo := s.lHi, fLo := s.fHi }
/-- The first rows are changed. -/
def chS (g : Str → Str) (l : List Str) (i j : Nat) : Str := if j < i then g (strAt l j) else strAt l j
theorem chS_0 (g : Str → Str) (l : List Str) : avR (fun j => (chS g l 0 j).av) l.length = l.flatMap Str.av := by simp [flat_eq, chS]
theorem chS_i (g : Str → Str) (l : List Str) (i : Nat) : chS g l i i = strAt l i := by simp [chS]
theorem chS_upd (g : Str → Str) (l : List Str) (i n : Nat) (x : Str) : avR (fun j => (updS (updS (chS g l i) i x) i (g (strAt l i)) j).av) n = avR (fun j => (chS g l (i + 1) j).av) n := by
  refine avR_congr fun j _ => ?_
  simp only [updS, chS]
  by_cases h : j = i
  · subst h; simp
  · simp only [h, if_false]
    by_cases h2 : j < i
    · rw [if_pos h2, if_pos (by omega)]
    · rw [if_neg h2, if_neg (by omega)]
theorem chS_put {g : Str → Str} {l : List Str} {i c : Nat} (hi : i < l.length) {x : AV} (y : Str) (hc : c + 1 ≤ 9) (he : y.av = splice (strAt l i).av c [x]) :
    splice (avR (fun j => (chS g l i j).av) l.length) (i * 9 + c) [x] = avR (fun j => (updS (chS g l i) i y j).av) l.length :=
  putS (chS g l i) y hi hc (by rw [chS_i]; exact he)
theorem chS_put2 {g : Str → Str} {l : List Str} {i c : Nat} (hi : i < l.length) {x : AV} {y : Str} (hc : c + 1 ≤ 9) (he : (g (strAt l i)).av = splice y.av c [x]) :
    splice (avR (fun j => (updS (chS g l i) i y j).av) l.length) (i * 9 + c) [x] = avR (fun j => (chS g l (i + 1) j).av) l.length := by
  rw [putS (updS (chS g l i) i y) (g (strAt l i)) hi hc (by rw [updS_i]; exact he), chS_upd]
theorem chS_part {g : Str → Str} {l : List Str} {i c : Nat} (hi : i < l.length) (hc : c + 1 ≤ 9) : ((avR (fun j => (chS g l i j).av) l.length).drop (i * 9 + c)).take 1 = ((strAt l i).av.drop c).take 1 := by
  rw [partS (chS g l i) hi hc, chS_i]

set_option maxHeartbeats 4000000 in
theorem c_lawWithin (H : Heap) (l : List Str) (one two : Int) (us : List Int) (id off bid boff : Nat) (ex bex : Bool) (hs : rd H id off (l.length * 9) = some (l.flatMap Str.av))
    (hb : rd H bid boff us.length = some (us.map (.int .u32))) (h1 : 0 ≤ one ∧ one ≤ 255) (h2 : 0 ≤ two ∧ two ≤ 255) (hu : ∀ u ∈ us, 0 ≤ u ∧ u ≤ 4294967295) (hn : (us.length : Int) ≤ 9223372036854775807) :
    ACalls Try.prog F.law01_TrackWithin [.agg [.slice id off l.length 9 ex], .int .u8 one, .int .u8 two, .slice bid boff us.length 1 bex] H (fun v _ => v = .bool true) := by
  refine acalls_of ok_law01_TrackWithin rfl fun hcl => ?_
  unfold ac_law01_TrackWithin
  simp only [argsT, Nat.zero_add, Nat.reduceAdd]
  have hid := rd_lt hs
  have hbid := rd_lt hb
  repeat (first
   |(with_reducible first|apply X1|apply X2|apply X3|apply X4|apply X5|apply X6|apply X7|apply X8|apply X9|apply Y1|apply Y2|apply Y3|apply Y4|apply Y5|apply Y6|apply Y7|apply Y8|apply Y9)
   |((with_reducible apply q_block_other);decide)
   |((with_reducible first|apply e_end|apply d_end);(simp;exact Red.rfl))
   |((first|((with_reducible apply O1);rfl)|((with_reducible apply O2);rfl)|((with_reducible apply P1);rfl)|((with_reducible apply P2);rfl)|((with_reducible apply P3);rfl)|((with_reducible apply P4);rfl)|((with_reducible apply P5);rfl));(simp (disch:=omega);exact Red.rfl);exact Red.rfl;(focus (first|(simp;done)|omega|(simp;omega))))
   |((with_reducible first|apply Z7|apply Z8|apply Z9);(simp (disch:=omega);exact Red.rfl))
   |((with_reducible first|apply Z1|apply Z2|apply Z3|apply Z4|apply Z5|apply Z6);(simp (disch:=omega);exact Red.rfl))
   |((with_reducible first|apply W1|apply W2|apply W3);(simp (disch:=omega);exact Red.rfl))
   |((with_reducible apply P6);rfl;(simp (disch:=omega);exact Red.rfl);exact Red.rfl;(focus (first|(simp [pr];done)|(simp [pr];omega))))
   |((with_reducible apply P7);rfl;(simp (disch:=omega);exact Red.rfl);exact Red.rfl;(focus (simp [repast, pr, AOp.sem];done))))
  (with_reducible apply e_call); (simp; exact Red.rfl); exact c_alive _
  rintro _ _ ⟨rfl, rfl⟩
  repeat (first
   |(with_reducible first|apply X1|apply X2|apply X3|apply X4|apply X5|apply X6|apply X7|apply X8|apply X9|apply Y1|apply Y2|apply Y3|apply Y4|apply Y5|apply Y6|apply Y7|apply Y8|apply Y9)
   |((with_reducible apply q_block_other);decide)
   |((with_reducible first|apply e_end|apply d_end);(simp;exact Red.rfl))
   |((first|((with_reducible apply O1);rfl)|((with_reducible apply O2);rfl)|((with_reducible apply P1);rfl)|((with_reducible apply P2);rfl)|((with_reducible apply P3);rfl)|((with_reducible apply P4);rfl)|((with_reducible apply P5);rfl));(simp (disch:=omega);exact Red.rfl);exact Red.rfl;(focus (first|(simp;done)|omega|(simp;omega))))
   |((with_reducible first|apply Z7|apply Z8|apply Z9);(simp (disch:=omega);exact Red.rfl))
   |((with_reducible first|apply Z1|apply Z2|apply Z3|apply Z4|apply Z5|apply Z6);(simp (disch:=omega);exact Red.rfl))
   |((with_reducible first|apply W1|apply W2|apply W3);(simp (disch:=omega);exact Red.rfl))
   |((with_reducible apply P6);rfl;(simp (disch:=omega);exact Red.rfl);exact Red.rfl;(focus (first|(simp [pr];done)|(simp [pr];omega))))
   |((with_reducible apply P7);rfl;(simp (disch:=omega);exact Red.rfl);exact Red.rfl;(focus (simp [repast, pr, AOp.sem];done))))
  (with_reducible apply e_call); (simp; exact Red.rfl); exact c_ready _ l id off ex (by rw [rd_old _ hid]; exact hs)
  rintro _ _ ⟨rfl, b, rfl, hbv⟩
  cases b with
  | false =>
    repeat (first
     |(with_reducible first|apply X1|apply X2|apply X3|apply X4|apply X5|apply X6|apply X7|apply X8|apply X9|apply Y1|apply Y2|apply Y3|apply Y4|apply Y5|apply Y6|apply Y7|apply Y8|apply Y9)
     |((with_reducible apply q_block_other);decide)
     |((with_reducible first|apply e_end|apply d_end);(simp;exact Red.rfl))
     |((first|((with_reducible apply O1);rfl)|((with_reducible apply O2);rfl)|((with_reducible apply P1);rfl)|((with_reducible apply P2);rfl)|((with_reducible apply P3);rfl)|((with_reducible apply P4);rfl)|((with_reducible apply P5);rfl));(simp (disch:=omega);exact Red.rfl);exact Red.rfl;(focus (first|(simp;done)|omega|(simp;omega))))
     |((with_reducible first|apply Z7|apply Z8|apply Z9);(simp (disch:=omega);exact Red.rfl))
     |((with_reducible first|apply Z1|apply Z2|apply Z3|apply Z4|apply Z5|apply Z6);(simp (disch:=omega);exact Red.rfl))
     |((with_reducible first|apply W1|apply W2|apply W3);(simp (disch:=omega);exact Red.rfl))
     |((with_reducible apply P6);rfl;(simp (disch:=omega);exact Red.rfl);exact Red.rfl;(focus (first|(simp [pr];done)|(simp [pr];omega))))
     |((with_reducible apply P7);rfl;(simp (disch:=omega);exact Red.rfl);exact Red.rfl;(focus (simp [repast, pr, AOp.sem];done))))
    exact q_drop (.inr rfl) (by simp; exact Red.rfl) (by simp) rfl
  | true =>
    have hv := hbv.1 rfl
    have h12 := hv.1
    obtain ⟨x, hx, hx2⟩ := mod_ex (n := l.length) h1.1
    obtain ⟨y, hy, hy2⟩ := mod_ex (n := l.length) h2.1
    have hne : ¬ ((l.length : Int) + 1 = 0) := by omega
    repeat (first
     |(with_reducible first|apply X1|apply X2|apply X3|apply X4|apply X5|apply X6|apply X7|apply X8|apply X9|apply Y1|apply Y2|apply Y3|apply Y4|apply Y5|apply Y6|apply Y7|apply Y8|apply Y9)
     |((with_reducible apply q_block_other);decide)
     |((with_reducible first|apply e_end|apply d_end);(simp;exact Red.rfl))
     |((first|((with_reducible apply O1);rfl)|((with_reducible apply O2);rfl)|((with_reducible apply P1);rfl)|((with_reducible apply P2);rfl)|((with_reducible apply P3);rfl)|((with_reducible apply P4);rfl)|((with_reducible apply P5);rfl));(simp (disch:=omega) [hx, hy, hne];exact Red.rfl);exact Red.rfl;(focus (first|(simp;done)|omega|(simp;omega))))
     |((with_reducible first|apply Z7|apply Z8|apply Z9);(simp (disch:=omega) [hx, hy, hne];exact Red.rfl))
     |((with_reducible first|apply Z1|apply Z2|apply Z3|apply Z4|apply Z5|apply Z6);(simp (disch:=omega) [hx, hy, hne];exact Red.rfl))
     |((with_reducible first|apply W1|apply W2|apply W3);(simp (disch:=omega) [hx, hy, hne];exact Red.rfl))
     |((with_reducible apply P6);rfl;(simp (disch:=omega) [hx, hy, hne];exact Red.rfl);exact Red.rfl;(focus (first|(simp [pr];done)|(simp [pr];omega))))
     |((with_reducible apply P7);rfl;(simp (disch:=omega) [hx, hy, hne];exact Red.rfl);exact Red.rfl;(focus (simp [repast, pr, AOp.sem];done))))
    refine c_cut (fun t' h' => ∃ (a b : Nat) (tl : List (Nat × AV)), a ≤ b ∧ b ≤ l.length ∧ t' = (3, .slice bid boff us.length 1 bex) :: (4, .ptr H.length 0) :: (9, .bool true) :: (10, .int .i64 ((l.length : Int) + 1)) :: (11, .int .i64 a) :: (12, .int .i64 b) :: tl ∧ h' = H ++ [.cells [.slice id off l.length 9 ex] true]) ?_ ?_
    · by_cases hxy : y < x
      · repeat (first
         |(with_reducible first|apply X1|apply X2|apply X3|apply X4|apply X5|apply X6|apply X7|apply X8|apply X9|apply Y1|apply Y2|apply Y3|apply Y4|apply Y5|apply Y6|apply Y7|apply Y8|apply Y9)
         |((with_reducible apply q_block_other);decide)
         |((with_reducible first|apply e_end|apply d_end);(simp;exact Red.rfl))
         |((first|((with_reducible apply O1);rfl)|((with_reducible apply O2);rfl)|((with_reducible apply P1);rfl)|((with_reducible apply P2);rfl)|((with_reducible apply P3);rfl)|((with_reducible apply P4);rfl)|((with_reducible apply P5);rfl));(simp (disch:=omega) [hxy];exact Red.rfl);exact Red.rfl;(focus (first|(simp;done)|omega|(simp;omega))))
         |((with_reducible first|apply Z7|apply Z8|apply Z9);(simp (disch:=omega) [hxy];exact Red.rfl))
         |((with_reducible first|apply Z1|apply Z2|apply Z3|apply Z4|apply Z5|apply Z6);(simp (disch:=omega) [hxy];exact Red.rfl))
         |((with_reducible first|apply W1|apply W2|apply W3);(simp (disch:=omega) [hxy];exact Red.rfl))
         |((with_reducible apply P6);rfl;(simp (disch:=omega) [hxy];exact Red.rfl);exact Red.rfl;(focus (first|(simp [pr];done)|(simp [pr];omega))))
         |((with_reducible apply P7);rfl;(simp (disch:=omega) [hxy];exact Red.rfl);exact Red.rfl;(focus (simp [repast, pr, AOp.sem];done))))
        exact q_cut ⟨y, x, _, by omega, hx2, rfl, rfl⟩
      · repeat (first
         |(with_reducible first|apply X1|apply X2|apply X3|apply X4|apply X5|apply X6|apply X7|apply X8|apply X9|apply Y1|apply Y2|apply Y3|apply Y4|apply Y5|apply Y6|apply Y7|apply Y8|apply Y9)
         |((with_reducible apply q_block_other);decide)
         |((with_reducible first|apply e_end|apply d_end);(simp;exact Red.rfl))
         |((first|((with_reducible apply O1);rfl)|((with_reducible apply O2);rfl)|((with_reducible apply P1);rfl)|((with_reducible apply P2);rfl)|((with_reducible apply P3);rfl)|((with_reducible apply P4);rfl)|((with_reducible apply P5);rfl));(simp (disch:=omega) [hxy];exact Red.rfl);exact Red.rfl;(focus (first|(simp;done)|omega|(simp;omega))))
         |((with_reducible first|apply Z7|apply Z8|apply Z9);(simp (disch:=omega) [hxy];exact Red.rfl))
         |((with_reducible first|apply Z1|apply Z2|apply Z3|apply Z4|apply Z5|apply Z6);(simp (disch:=omega) [hxy];exact Red.rfl))
         |((with_reducible first|apply W1|apply W2|apply W3);(simp (disch:=omega) [hxy];exact Red.rfl))
         |((with_reducible apply P6);rfl;(simp (disch:=omega) [hxy];exact Red.rfl);exact Red.rfl;(focus (first|(simp [pr];done)|(simp [pr];omega))))
         |((with_reducible apply P7);rfl;(simp (disch:=omega) [hxy];exact Red.rfl);exact Red.rfl;(focus (simp [repast, pr, AOp.sem];done))))
        exact q_cut ⟨x, y, _, by omega, hy2, rfl, rfl⟩
    rintro _ _ ⟨a, b, tl, hab, hb2, rfl, rfl⟩
    repeat (first
     |(with_reducible first|apply X1|apply X2|apply X3|apply X4|apply X5|apply X6|apply X7|apply X8|apply X9|apply Y1|apply Y2|apply Y3|apply Y4|apply Y5|apply Y6|apply Y7|apply Y8|apply Y9)
     |((with_reducible apply q_block_other);decide)
     |((with_reducible first|apply e_end|apply d_end);(simp;exact Red.rfl))
     |((first|((with_reducible apply O1);rfl)|((with_reducible apply O2);rfl)|((with_reducible apply P1);rfl)|((with_reducible apply P2);rfl)|((with_reducible apply P3);rfl)|((with_reducible apply P4);rfl)|((with_reducible apply P5);rfl));(simp (disch:=omega);exact Red.rfl);exact Red.rfl;(focus (first|(simp;done)|omega|(simp;omega))))
     |((with_reducible first|apply Z7|apply Z8|apply Z9);(simp (disch:=omega);exact Red.rfl))
     |((with_reducible first|apply Z1|apply Z2|apply Z3|apply Z4|apply Z5|apply Z6);(simp (disch:=omega);exact Red.rfl))
     |((with_reducible first|apply W1|apply W2|apply W3);(simp (disch:=omega);exact Red.rfl))
     |((with_reducible apply P6);rfl;(simp (disch:=omega);exact Red.rfl);exact Red.rfl;(focus (first|(simp [pr];done)|(simp [pr];omega))))
     |((with_reducible apply P7);rfl;(simp (disch:=omega);exact Red.rfl);exact Red.rfl;(focus (simp [repast, pr, AOp.sem];done))))
    (with_reducible apply e_call); (simp; exact Red.rfl); exact c_Marks _ l id off ex (by rw [rd_old _ hid]; exact hs) hv
    rintro _ _ ⟨rfl, rfl⟩
    repeat (first
     |(with_reducible first|apply X1|apply X2|apply X3|apply X4|apply X5|apply X6|apply X7|apply X8|apply X9|apply Y1|apply Y2|apply Y3|apply Y4|apply Y5|apply Y6|apply Y7|apply Y8|apply Y9)
     |((with_reducible apply q_block_other);decide)
     |((with_reducible first|apply e_end|apply d_end);(simp;exact Red.rfl))
     |((first|((with_reducible apply O1);rfl)|((with_reducible apply O2);rfl)|((with_reducible apply P1);rfl)|((with_reducible apply P2);rfl)|((with_reducible apply P3);rfl)|((with_reducible apply P4);rfl)|((with_reducible apply P5);rfl));(simp (disch:=omega);exact Red.rfl);exact Red.rfl;(focus (first|(simp;done)|omega|(simp;omega))))
     |((with_reducible first|apply Z7|apply Z8|apply Z9);(simp (disch:=omega);exact Red.rfl))
     |((with_reducible first|apply Z1|apply Z2|apply Z3|apply Z4|apply Z5|apply Z6);(simp (disch:=omega);exact Red.rfl))
     |((with_reducible first|apply W1|apply W2|apply W3);(simp (disch:=omega);exact Red.rfl))
     |((with_reducible apply P6);rfl;(simp (disch:=omega);exact Red.rfl);exact Red.rfl;(focus (first|(simp [pr];done)|(simp [pr];omega))))
     |((with_reducible apply P7);rfl;(simp (disch:=omega);exact Red.rfl);exact Red.rfl;(focus (simp [repast, pr, AOp.sem];done))))
    (with_reducible apply e_call); (simp; exact Red.rfl); exact c_Drop _ l id off ex a b (by rw [rd_old _ hid]; simpa using hs) hv hab hb2
    rintro _ _ ⟨rfl, rfl⟩
    repeat (first
     |(with_reducible first|apply X1|apply X2|apply X3|apply X4|apply X5|apply X6|apply X7|apply X8|apply X9|apply Y1|apply Y2|apply Y3|apply Y4|apply Y5|apply Y6|apply Y7|apply Y8|apply Y9)
     |((with_reducible apply q_block_other);decide)
     |((with_reducible first|apply e_end|apply d_end);(simp;exact Red.rfl))
     |((first|((with_reducible apply O1);rfl)|((with_reducible apply O2);rfl)|((with_reducible apply P1);rfl)|((with_reducible apply P2);rfl)|((with_reducible apply P3);rfl)|((with_reducible apply P4);rfl)|((with_reducible apply P5);rfl));(simp (disch:=omega);exact Red.rfl);exact Red.rfl;(focus (first|(simp;done)|omega|(simp;omega))))
     |((with_reducible first|apply Z7|apply Z8|apply Z9);(simp (disch:=omega);exact Red.rfl))
     |((with_reducible first|apply Z1|apply Z2|apply Z3|apply Z4|apply Z5|apply Z6);(simp (disch:=omega);exact Red.rfl))
     |((with_reducible first|apply W1|apply W2|apply W3);(simp (disch:=omega);exact Red.rfl))
     |((with_reducible apply P6);rfl;(simp (disch:=omega);exact Red.rfl);exact Red.rfl;(focus (first|(simp [pr];done)|(simp [pr];omega))))
     |((with_reducible apply P7);rfl;(simp (disch:=omega);exact Red.rfl);exact Red.rfl;(focus (simp [repast, pr, AOp.sem];done))))
    (with_reducible apply e_call); (simp; exact Red.rfl); exact c_truth _ l us id off bid boff ex bex (by rw [rd_old _ hid]; simpa using hs) hv (by rw [rd_old _ hbid]; simpa using hb) hu hn
    rintro _ _ ⟨rfl, rfl⟩
    repeat (first
     |(with_reducible first|apply X1|apply X2|apply X3|apply X4|apply X5|apply X6|apply X7|apply X8|apply X9|apply Y1|apply Y2|apply Y3|apply Y4|apply Y5|apply Y6|apply Y7|apply Y8|apply Y9)
     |((with_reducible apply q_block_other);decide)
     |((with_reducible first|apply e_end|apply d_end);(simp;exact Red.rfl))
     |((first|((with_reducible apply O1);rfl)|((with_reducible apply O2);rfl)|((with_reducible apply P1);rfl)|((with_reducible apply P2);rfl)|((with_reducible apply P3);rfl)|((with_reducible apply P4);rfl)|((with_reducible apply P5);rfl));(simp (disch:=omega);exact Red.rfl);exact Red.rfl;(focus (first|(simp;done)|omega|(simp;omega))))
     |((with_reducible first|apply Z7|apply Z8|apply Z9);(simp (disch:=omega);exact Red.rfl))
     |((with_reducible first|apply Z1|apply Z2|apply Z3|apply Z4|apply Z5|apply Z6);(simp (disch:=omega);exact Red.rfl))
     |((with_reducible first|apply W1|apply W2|apply W3);(simp (disch:=omega);exact Red.rfl))
     |((with_reducible apply P6);rfl;(simp (disch:=omega);exact Red.rfl);exact Red.rfl;(focus (first|(simp [pr];done)|(simp [pr];omega))))
     |((with_reducible apply P7);rfl;(simp (disch:=omega);exact Red.rfl);exact Red.rfl;(focus (simp [repast, pr, AOp.sem];done))))
    have plm := (plain_r2 (mLo l) (mHi l)).plain (l.length + 1)
    have pll := plain_r1 (longF us l)
    have hG : ∀ o ∈ [AObj.cells [.slice id off l.length 9 ex] true, .cells (avR (r2 (mLo l) (mHi l)) (l.length + 1)) true, .cells [.int .i64 (sumF (kLo kLong l) a (b - a)), .int .i64 (sumF (kHi kLong l) a (b - a))] true, .cells [.int .i64 (sumF (kLo kFall l) a (b - a)), .int .i64 (sumF (kHi kFall l) a (b - a))] true, .cells (avL (longF us l) l.length) true, .cells (avL (fallF us l) l.length) true], o.sc (H.length + 6) = true := by
      simp [plm.sc, avL_sc]; omega
    refine e_loop (ι := { i : Nat // i ≤ l.length + 1 })
      (fun i => [(4, .ptr H.length 0), (9, .bool true), (11, .int .i64 a), (12, .int .i64 b), (13, .slice (H.length + 1) 0 (l.length + 1) 2 false), (15, .ptr (H.length + 2) 0), (16, .ptr (H.length + 3) 0), (18, .slice (H.length + 4) 0 l.length 1 false), (19, .slice (H.length + 5) 0 l.length 1 false), (90, .int .i64 ((l.length : Int) + 1)), (91, .int .i64 i.1)])
      (fun _ => H ++ [.cells [.slice id off l.length 9 ex] true, .cells (avR (r2 (mLo l) (mHi l)) (l.length + 1)) true, .cells [.int .i64 (sumF (kLo kLong l) a (b - a)), .int .i64 (sumF (kHi kLong l) a (b - a))] true, .cells [.int .i64 (sumF (kLo kFall l) a (b - a)), .int .i64 (sumF (kHi kFall l) a (b - a))] true, .cells (avL (longF us l) l.length) true, .cells (avL (fallF us l) l.length) true])
      (fun i => l.length + 1 - i.1) ⟨0, by simp⟩ ?_ ?_
    · exact .inr <| le_same (by simpa using hG) (by simp [Red])
    rintro ⟨i, hi⟩
    dsimp only
    by_cases hlt : i < l.length + 1
    · have hlt2 : (i : Int) < (l.length : Int) + 1 := by omega
      have hlen := (plain_r2 (mLo l) (mHi l)).length (l.length + 1)
      have hle : i * 2 + 2 ≤ (l.length + 1) * 2 := by omega
      have hrow := (plain_r2 (mLo l) (mHi l)).row hlt
      have hin := longs_in hv us (show 0 + i ≤ l.length by omega)
      rw [← mLo_eq, ← mHi_eq] at hin
      repeat (first
       |(with_reducible first|apply X1|apply X2|apply X3|apply X4|apply X5|apply X6|apply X7|apply X8|apply X9|apply Y1|apply Y2|apply Y3|apply Y4|apply Y5|apply Y6|apply Y7|apply Y8|apply Y9)
       |((with_reducible apply q_block_other);decide)
       |((with_reducible first|apply e_end|apply d_end);(simp;exact Red.rfl))
       |((first|((with_reducible apply O1);rfl)|((with_reducible apply O2);rfl)|((with_reducible apply P1);rfl)|((with_reducible apply P2);rfl)|((with_reducible apply P3);rfl)|((with_reducible apply P4);rfl)|((with_reducible apply P5);rfl));(simp (disch:=omega) [hlt, hlt2];exact Red.rfl);exact Red.rfl;(focus (first|(simp;done)|omega|(simp;omega))))
       |((with_reducible first|apply Z7|apply Z8|apply Z9);(simp (disch:=omega) [hlt, hlt2];exact Red.rfl))
       |((with_reducible first|apply Z1|apply Z2|apply Z3|apply Z4|apply Z5|apply Z6);(simp (disch:=omega) [hlt, hlt2];exact Red.rfl))
       |((with_reducible first|apply W1|apply W2|apply W3);(simp (disch:=omega) [hlt, hlt2];exact Red.rfl))
       |((with_reducible apply P6);rfl;(simp (disch:=omega) [hlt, hlt2];exact Red.rfl);exact Red.rfl;(focus (first|(simp [pr];done)|(simp [pr];omega))))
       |((with_reducible apply P7);rfl;(simp (disch:=omega) [hlt, hlt2];exact Red.rfl);exact Red.rfl;(focus (simp [repast, pr, AOp.sem];done))))
      (with_reducible apply d_call); (simp; exact Red.rfl); exact c_sum _ (longF us l) l.length _ 0 false 0 i (by simp [avL_length, avL_take]) (fun j hj => by have := long_in hv us hj; omega) (by omega) (by omega) (by omega); (focus (first | (simp; done) | (simp; omega)))
      repeat (first
       |(with_reducible first|apply X1|apply X2|apply X3|apply X4|apply X5|apply X6|apply X7|apply X8|apply X9|apply Y1|apply Y2|apply Y3|apply Y4|apply Y5|apply Y6|apply Y7|apply Y8|apply Y9)
       |((with_reducible apply q_block_other);decide)
       |((with_reducible first|apply e_end|apply d_end);(simp;exact Red.rfl))
       |((first|((with_reducible apply O1);rfl)|((with_reducible apply O2);rfl)|((with_reducible apply P1);rfl)|((with_reducible apply P2);rfl)|((with_reducible apply P3);rfl)|((with_reducible apply P4);rfl)|((with_reducible apply P5);rfl));(simp (disch:=omega) [hlt, hlt2, hlen, hle, hrow, r2];exact Red.rfl);exact Red.rfl;(focus (first|(simp;done)|omega|(simp;omega))))
       |((with_reducible first|apply Z7|apply Z8|apply Z9);(simp (disch:=omega) [hlt, hlt2, hlen, hle, hrow, r2];exact Red.rfl))
       |((with_reducible first|apply Z1|apply Z2|apply Z3|apply Z4|apply Z5|apply Z6);(simp (disch:=omega) [hlt, hlt2, hlen, hle, hrow, r2];exact Red.rfl))
       |((with_reducible first|apply W1|apply W2|apply W3);(simp (disch:=omega) [hlt, hlt2, hlen, hle, hrow, r2];exact Red.rfl))
       |((with_reducible apply P6);rfl;(simp (disch:=omega) [hlt, hlt2, hlen, hle, hrow, r2];exact Red.rfl);exact Red.rfl;(focus (first|(simp [pr];done)|(simp [pr];omega))))
       |((with_reducible apply P7);rfl;(simp (disch:=omega) [hlt, hlt2, hlen, hle, hrow, r2];exact Red.rfl);exact Red.rfl;(focus (simp [repast, pr, AOp.sem];done))))
      (with_reducible apply d_call); (simp; exact Red.rfl); exact c_inside _ _ _ _ (b := true) (by simpa using hin); (focus (first | (simp; done) | (simp; omega)))
      repeat (first
       |(with_reducible first|apply X1|apply X2|apply X3|apply X4|apply X5|apply X6|apply X7|apply X8|apply X9|apply Y1|apply Y2|apply Y3|apply Y4|apply Y5|apply Y6|apply Y7|apply Y8|apply Y9)
       |((with_reducible apply q_block_other);decide)
       |((with_reducible first|apply e_end|apply d_end);(simp;exact Red.rfl))
       |((first|((with_reducible apply O1);rfl)|((with_reducible apply O2);rfl)|((with_reducible apply P1);rfl)|((with_reducible apply P2);rfl)|((with_reducible apply P3);rfl)|((with_reducible apply P4);rfl)|((with_reducible apply P5);rfl));(simp (disch:=omega);exact Red.rfl);exact Red.rfl;(focus (first|(simp;done)|omega|(simp;omega))))
       |((with_reducible first|apply Z7|apply Z8|apply Z9);(simp (disch:=omega);exact Red.rfl))
       |((with_reducible first|apply Z1|apply Z2|apply Z3|apply Z4|apply Z5|apply Z6);(simp (disch:=omega);exact Red.rfl))
       |((with_reducible first|apply W1|apply W2|apply W3);(simp (disch:=omega);exact Red.rfl))
       |((with_reducible apply P6);rfl;(simp (disch:=omega);exact Red.rfl);exact Red.rfl;(focus (first|(simp [pr];done)|(simp [pr];omega))))
       |((with_reducible apply P7);rfl;(simp (disch:=omega);exact Red.rfl);exact Red.rfl;(focus (simp [repast, pr, AOp.sem];done))))
      exact q_again ⟨i + 1, by omega⟩ (by dsimp only; omega) (.inr <| le_same (by simpa using hG) (by simp [Red]))
    · have hlt2 : ¬ (i : Int) < (l.length : Int) + 1 := by omega
      have hin1 := longs_in hv us (show a + (b - a) ≤ l.length by omega)
      have hin2 := falls_in hv us (show a + (b - a) ≤ l.length by omega)
      repeat (first
       |(with_reducible first|apply X1|apply X2|apply X3|apply X4|apply X5|apply X6|apply X7|apply X8|apply X9|apply Y1|apply Y2|apply Y3|apply Y4|apply Y5|apply Y6|apply Y7|apply Y8|apply Y9)
       |((with_reducible apply q_block_other);decide)
       |((with_reducible first|apply e_end|apply d_end);(simp;exact Red.rfl))
       |((first|((with_reducible apply O1);rfl)|((with_reducible apply O2);rfl)|((with_reducible apply P1);rfl)|((with_reducible apply P2);rfl)|((with_reducible apply P3);rfl)|((with_reducible apply P4);rfl)|((with_reducible apply P5);rfl));(simp (disch:=omega) [hlt, hlt2];exact Red.rfl);exact Red.rfl;(focus (first|(simp;done)|omega|(simp;omega))))
       |((with_reducible first|apply Z7|apply Z8|apply Z9);(simp (disch:=omega) [hlt, hlt2];exact Red.rfl))
       |((with_reducible first|apply Z1|apply Z2|apply Z3|apply Z4|apply Z5|apply Z6);(simp (disch:=omega) [hlt, hlt2];exact Red.rfl))
       |((with_reducible first|apply W1|apply W2|apply W3);(simp (disch:=omega) [hlt, hlt2];exact Red.rfl))
       |((with_reducible apply P6);rfl;(simp (disch:=omega) [hlt, hlt2];exact Red.rfl);exact Red.rfl;(focus (first|(simp [pr];done)|(simp [pr];omega))))
       |((with_reducible apply P7);rfl;(simp (disch:=omega) [hlt, hlt2];exact Red.rfl);exact Red.rfl;(focus (simp [repast, pr, AOp.sem];done))))
      (with_reducible apply d_call); (simp; exact Red.rfl); exact c_sum _ (longF us l) l.length _ 0 false a b (by simp [avL_length, avL_take]) (fun j hj => by have := long_in hv us hj; omega) (by omega) (by omega) (by omega); (focus (first | (simp; done) | (simp; omega)))
      repeat (first
       |(with_reducible first|apply X1|apply X2|apply X3|apply X4|apply X5|apply X6|apply X7|apply X8|apply X9|apply Y1|apply Y2|apply Y3|apply Y4|apply Y5|apply Y6|apply Y7|apply Y8|apply Y9)
       |((with_reducible apply q_block_other);decide)
       |((with_reducible first|apply e_end|apply d_end);(simp;exact Red.rfl))
       |((first|((with_reducible apply O1);rfl)|((with_reducible apply O2);rfl)|((with_reducible apply P1);rfl)|((with_reducible apply P2);rfl)|((with_reducible apply P3);rfl)|((with_reducible apply P4);rfl)|((with_reducible apply P5);rfl));(simp (disch:=omega);exact Red.rfl);exact Red.rfl;(focus (first|(simp;done)|omega|(simp;omega))))
       |((with_reducible first|apply Z7|apply Z8|apply Z9);(simp (disch:=omega);exact Red.rfl))
       |((with_reducible first|apply Z1|apply Z2|apply Z3|apply Z4|apply Z5|apply Z6);(simp (disch:=omega);exact Red.rfl))
       |((with_reducible first|apply W1|apply W2|apply W3);(simp (disch:=omega);exact Red.rfl))
       |((with_reducible apply P6);rfl;(simp (disch:=omega);exact Red.rfl);exact Red.rfl;(focus (first|(simp [pr];done)|(simp [pr];omega))))
       |((with_reducible apply P7);rfl;(simp (disch:=omega);exact Red.rfl);exact Red.rfl;(focus (simp [repast, pr, AOp.sem];done))))
      (with_reducible apply d_call); (simp; exact Red.rfl); exact c_inside _ _ _ _ (b := true) (by simpa using hin1); (focus (first | (simp; done) | (simp; omega)))
      repeat (first
       |(with_reducible first|apply X1|apply X2|apply X3|apply X4|apply X5|apply X6|apply X7|apply X8|apply X9|apply Y1|apply Y2|apply Y3|apply Y4|apply Y5|apply Y6|apply Y7|apply Y8|apply Y9)
       |((with_reducible apply q_block_other);decide)
       |((with_reducible first|apply e_end|apply d_end);(simp;exact Red.rfl))
       |((first|((with_reducible apply O1);rfl)|((with_reducible apply O2);rfl)|((with_reducible apply P1);rfl)|((with_reducible apply P2);rfl)|((with_reducible apply P3);rfl)|((with_reducible apply P4);rfl)|((with_reducible apply P5);rfl));(simp (disch:=omega);exact Red.rfl);exact Red.rfl;(focus (first|(simp;done)|omega|(simp;omega))))
       |((with_reducible first|apply Z7|apply Z8|apply Z9);(simp (disch:=omega);exact Red.rfl))
       |((with_reducible first|apply Z1|apply Z2|apply Z3|apply Z4|apply Z5|apply Z6);(simp (disch:=omega);exact Red.rfl))
       |((with_reducible first|apply W1|apply W2|apply W3);(simp (disch:=omega);exact Red.rfl))
       |((with_reducible apply P6);rfl;(simp (disch:=omega);exact Red.rfl);exact Red.rfl;(focus (first|(simp [pr];done)|(simp [pr];omega))))
       |((with_reducible apply P7);rfl;(simp (disch:=omega);exact Red.rfl);exact Red.rfl;(focus (simp [repast, pr, AOp.sem];done))))
      (with_reducible apply d_call); (simp; exact Red.rfl); exact c_sum _ (fallF us l) l.length _ 0 false a b (by simp [avL_length, avL_take]) (fun j hj => by have := fall_in hv us hj; omega) (by omega) (by omega) (by omega); (focus (first | (simp; done) | (simp; omega)))
      repeat (first
       |(with_reducible first|apply X1|apply X2|apply X3|apply X4|apply X5|apply X6|apply X7|apply X8|apply X9|apply Y1|apply Y2|apply Y3|apply Y4|apply Y5|apply Y6|apply Y7|apply Y8|apply Y9)
       |((with_reducible apply q_block_other);decide)
       |((with_reducible first|apply e_end|apply d_end);(simp;exact Red.rfl))
       |((first|((with_reducible apply O1);rfl)|((with_reducible apply O2);rfl)|((with_reducible apply P1);rfl)|((with_reducible apply P2);rfl)|((with_reducible apply P3);rfl)|((with_reducible apply P4);rfl)|((with_reducible apply P5);rfl));(simp (disch:=omega);exact Red.rfl);exact Red.rfl;(focus (first|(simp;done)|omega|(simp;omega))))
       |((with_reducible first|apply Z7|apply Z8|apply Z9);(simp (disch:=omega);exact Red.rfl))
       |((with_reducible first|apply Z1|apply Z2|apply Z3|apply Z4|apply Z5|apply Z6);(simp (disch:=omega);exact Red.rfl))
       |((with_reducible first|apply W1|apply W2|apply W3);(simp (disch:=omega);exact Red.rfl))
       |((with_reducible apply P6);rfl;(simp (disch:=omega);exact Red.rfl);exact Red.rfl;(focus (first|(simp [pr];done)|(simp [pr];omega))))
       |((with_reducible apply P7);rfl;(simp (disch:=omega);exact Red.rfl);exact Red.rfl;(focus (simp [repast, pr, AOp.sem];done))))
      (with_reducible apply d_call); (simp; exact Red.rfl); exact c_inside _ _ _ _ (b := true) (by simpa using hin2); (focus (first | (simp; done) | (simp; omega)))
      repeat (first
       |(with_reducible first|apply X1|apply X2|apply X3|apply X4|apply X5|apply X6|apply X7|apply X8|apply X9|apply Y1|apply Y2|apply Y3|apply Y4|apply Y5|apply Y6|apply Y7|apply Y8|apply Y9)
       |((with_reducible apply q_block_other);decide)
       |((with_reducible first|apply e_end|apply d_end);(simp;exact Red.rfl))
       |((first|((with_reducible apply O1);rfl)|((with_reducible apply O2);rfl)|((with_reducible apply P1);rfl)|((with_reducible apply P2);rfl)|((with_reducible apply P3);rfl)|((with_reducible apply P4);rfl)|((with_reducible apply P5);rfl));(simp (disch:=omega);exact Red.rfl);exact Red.rfl;(focus (first|(simp;done)|omega|(simp;omega))))
       |((with_reducible first|apply Z7|apply Z8|apply Z9);(simp (disch:=omega);exact Red.rfl))
       |((with_reducible first|apply Z1|apply Z2|apply Z3|apply Z4|apply Z5|apply Z6);(simp (disch:=omega);exact Red.rfl))
       |((with_reducible first|apply W1|apply W2|apply W3);(simp (disch:=omega);exact Red.rfl))
       |((with_reducible apply P6);rfl;(simp (disch:=omega);exact Red.rfl);exact Red.rfl;(focus (first|(simp [pr];done)|(simp [pr];omega))))
       |((with_reducible apply P7);rfl;(simp (disch:=omega);exact Red.rfl);exact Red.rfl;(focus (simp [repast, pr, AOp.sem];done))))
      have pls := (plain_str l).plain l.length
      (with_reducible apply d_call_); (simp; exact Red.rfl); exact c_Twin _ l id off ex (by rw [rd_old _ hid]; simpa using hs) (by omega); (focus (first | (simp; done) | (simp; omega)))
      repeat (first
       |(with_reducible first|apply X1|apply X2|apply X3|apply X4|apply X5|apply X6|apply X7|apply X8|apply X9|apply Y1|apply Y2|apply Y3|apply Y4|apply Y5|apply Y6|apply Y7|apply Y8|apply Y9)
       |((with_reducible apply q_block_other);decide)
       |((with_reducible first|apply e_end|apply d_end);(simp;exact Red.rfl))
       |((first|((with_reducible apply O1);rfl)|((with_reducible apply O2);rfl)|((with_reducible apply P1);rfl)|((with_reducible apply P2);rfl)|((with_reducible apply P3);rfl)|((with_reducible apply P4);rfl)|((with_reducible apply P5);rfl));(simp (disch:=omega);exact Red.rfl);exact Red.rfl;(focus (first|(simp;done)|omega|(simp;omega))))
       |((with_reducible first|apply Z7|apply Z8|apply Z9);(simp (disch:=omega);exact Red.rfl))
       |((with_reducible first|apply Z1|apply Z2|apply Z3|apply Z4|apply Z5|apply Z6);(simp (disch:=omega);exact Red.rfl))
       |((with_reducible first|apply W1|apply W2|apply W3);(simp (disch:=omega);exact Red.rfl))
       |((with_reducible apply P6);rfl;(simp (disch:=omega);exact Red.rfl);exact Red.rfl;(focus (first|(simp [pr];done)|(simp [pr];omega))))
       |((with_reducible apply P7);rfl;(simp (disch:=omega);exact Red.rfl);exact Red.rfl;(focus (simp [repast, pr, AOp.sem];done))))
      (with_reducible apply d_call_); (simp; exact Red.rfl); exact c_Twin _ l id off ex (by rw [List.append_assoc, rd_old _ hid]; simpa using hs) (by omega); (focus (first | (simp; done) | (simp; omega)))
      repeat (first
       |(with_reducible first|apply X1|apply X2|apply X3|apply X4|apply X5|apply X6|apply X7|apply X8|apply X9|apply Y1|apply Y2|apply Y3|apply Y4|apply Y5|apply Y6|apply Y7|apply Y8|apply Y9)
       |((with_reducible apply q_block_other);decide)
       |((with_reducible first|apply e_end|apply d_end);(simp;exact Red.rfl))
       |((first|((with_reducible apply O1);rfl)|((with_reducible apply O2);rfl)|((with_reducible apply P1);rfl)|((with_reducible apply P2);rfl)|((with_reducible apply P3);rfl)|((with_reducible apply P4);rfl)|((with_reducible apply P5);rfl));(simp (disch:=omega);exact Red.rfl);exact Red.rfl;(focus (first|(simp;done)|omega|(simp;omega))))
       |((with_reducible first|apply Z7|apply Z8|apply Z9);(simp (disch:=omega);exact Red.rfl))
       |((with_reducible first|apply Z1|apply Z2|apply Z3|apply Z4|apply Z5|apply Z6);(simp (disch:=omega);exact Red.rfl))
       |((with_reducible first|apply W1|apply W2|apply W3);(simp (disch:=omega);exact Red.rfl))
       |((with_reducible apply P6);rfl;(simp (disch:=omega);exact Red.rfl);exact Red.rfl;(focus (first|(simp [pr];done)|(simp [pr];omega))))
       |((with_reducible apply P7);rfl;(simp (disch:=omega);exact Red.rfl);exact Red.rfl;(focus (simp [repast, pr, AOp.sem];done))))
      refine e_loop (ι := { i : Nat // i ≤ l.length })
        (fun i => [(9, .bool true), (11, .int .i64 a), (12, .int .i64 b), (15, .ptr H.length 0), (16, .ptr (H.length + 1) 0), (21, .ptr (H.length + 4) 0), (22, .ptr (H.length + 5) 0), (126, .int .i64 l.length), (127, .int .i64 i.1)])
        (fun i => H ++ [.cells [.int .i64 (sumF (kLo kLong l) a (b - a)), .int .i64 (sumF (kHi kLong l) a (b - a))] true, .cells [.int .i64 (sumF (kLo kFall l) a (b - a)), .int .i64 (sumF (kHi kFall l) a (b - a))] true,
          .cells (avR (fun j => (chS lowT l i.1 j).av) l.length) true, .cells (avR (fun j => (chS highT l i.1 j).av) l.length) true, .cells [.slice (H.length + 2) 0 l.length 9 false] true, .cells [.slice (H.length + 3) 0 l.length 9 false] true])
        (fun i => l.length - i.1) ⟨0, by simp⟩ ?_ ?_
      · simp only [chS_0]
        rw [flat_eq]
        exact .inr <| le_to0 [2, 3, 6, 7, 8, 9] (by simp) (by simp [KeepAll, sh, AObj.ren, AV.ren, renL, pls.sc, pls.ren]) (by simp [sh, AV.ren])
      rintro ⟨i, hi⟩
      dsimp only
      have plA := (plain_fun (chS lowT l (i + 1))).plain l.length
      have plB := (plain_fun (chS highT l (i + 1))).plain l.length
      by_cases hlt : i < l.length
      · have hlt2 : (i : Int) < l.length := by omega
        have hl1 := lenS (chS lowT l i) l.length
        have hl2 := lenS (chS highT l i) l.length
        generalize hS : strAt l i = s
        have hA1 : ((avR (fun j => (chS lowT l i j).av) l.length).drop (i * 9 + 1)).take 1 = [.int .i64 s.lLo] := by rw [chS_part hlt (by decide), hS]; rfl
        have hA3 : ((avR (fun j => (chS lowT l i j).av) l.length).drop (i * 9 + 3)).take 1 = [.int .i64 s.fLo] := by rw [chS_part hlt (by decide), hS]; rfl
        have hB2 : ((avR (fun j => (chS highT l i j).av) l.length).drop (i * 9 + 2)).take 1 = [.int .i64 s.lHi] := by rw [chS_part hlt (by decide), hS]; rfl
        have hB4 : ((avR (fun j => (chS highT l i j).av) l.length).drop (i * 9 + 4)).take 1 = [.int .i64 s.fHi] := by rw [chS_part hlt (by decide), hS]; rfl
        have wA1 := chS_put (g := lowT) (c := 2) hlt (x := .int .i64 s.lLo) { s with lHi := s.lLo } (by decide) (by rw [hS]; rfl)
        have wA2 := chS_put2 (g := lowT) (c := 4) hlt (x := .int .i64 s.fLo) (y := { s with lHi := s.lLo }) (by decide) (by rw [hS]; rfl)
        have wB1 := chS_put (g := highT) (c := 1) hlt (x := .int .i64 s.lHi) { s with lLo := s.lHi } (by decide) (by rw [hS]; rfl)
        have wB2 := chS_put2 (g := highT) (c := 3) hlt (x := .int .i64 s.fHi) (y := { s with lLo := s.lHi }) (by decide) (by rw [hS]; rfl)
        have hm1 := lenS (updS (chS lowT l i) i { s with lHi := s.lLo }) l.length
        have hm2 := lenS (updS (chS highT l i) i { s with lLo := s.lHi }) l.length
        have le1 : i * 9 + 2 ≤ l.length * 9 := by omega
        have le2 : i * 9 + 3 ≤ l.length * 9 := by omega
        have le3 : i * 9 + 4 ≤ l.length * 9 := by omega
        have le4 : i * 9 + 5 ≤ l.length * 9 := by omega
        repeat (first
         |(with_reducible first|apply X1|apply X2|apply X3|apply X4|apply X5|apply X6|apply X7|apply X8|apply X9|apply Y1|apply Y2|apply Y3|apply Y4|apply Y5|apply Y6|apply Y7|apply Y8|apply Y9)
         |((with_reducible apply q_block_other);decide)
         |((with_reducible first|apply e_end|apply d_end);(simp;exact Red.rfl))
         |((first|((with_reducible apply O1);rfl)|((with_reducible apply O2);rfl)|((with_reducible apply P1);rfl)|((with_reducible apply P2);rfl)|((with_reducible apply P3);rfl)|((with_reducible apply P4);rfl)|((with_reducible apply P5);rfl));(simp (disch:=omega) [hlt, hlt2, -splice, hl1, hl2, hm1, hm2, hA1, hA3, hB2, hB4, wA1, wA2, wB1, wB2, le1, le2, le3, le4];exact Red.rfl);exact Red.rfl;(focus (first|(simp;done)|omega|(simp;omega))))
         |((with_reducible first|apply Z7|apply Z8|apply Z9);(simp (disch:=omega) [hlt, hlt2, -splice, hl1, hl2, hm1, hm2, hA1, hA3, hB2, hB4, wA1, wA2, wB1, wB2, le1, le2, le3, le4];exact Red.rfl))
         |((with_reducible first|apply Z1|apply Z2|apply Z3|apply Z4|apply Z5|apply Z6);(simp (disch:=omega) [hlt, hlt2, -splice, hl1, hl2, hm1, hm2, hA1, hA3, hB2, hB4, wA1, wA2, wB1, wB2, le1, le2, le3, le4];exact Red.rfl))
         |((with_reducible first|apply W1|apply W2|apply W3);(simp (disch:=omega) [hlt, hlt2, -splice, hl1, hl2, hm1, hm2, hA1, hA3, hB2, hB4, wA1, wA2, wB1, wB2, le1, le2, le3, le4];exact Red.rfl))
         |((with_reducible apply P6);rfl;(simp (disch:=omega) [hlt, hlt2, -splice, hl1, hl2, hm1, hm2, hA1, hA3, hB2, hB4, wA1, wA2, wB1, wB2, le1, le2, le3, le4];exact Red.rfl);exact Red.rfl;(focus (first|(simp [pr];done)|(simp [pr];omega))))
         |((with_reducible apply P7);rfl;(simp (disch:=omega) [hlt, hlt2, -splice, hl1, hl2, hm1, hm2, hA1, hA3, hB2, hB4, wA1, wA2, wB1, wB2, le1, le2, le3, le4];exact Red.rfl);exact Red.rfl;(focus (simp [repast, pr, AOp.sem];done))))
        exact q_again ⟨i + 1, by omega⟩ (by dsimp only; omega) (.inr <| le_same (by simp [plA.sc, plB.sc]) (by simp [Red]))
      · have hlt2 : ¬ (i : Int) < l.length := by omega
        obtain rfl : i = l.length := by omega
        have hvA := listS_valid hv (S := chS lowT l l.length) (fun j hj => by
          have ho := (hv.2 j hj).2.1
          rw [← strAt_eq] at ho
          simp only [chS, hj, if_true]
          obtain ⟨o1, o2, o3, o4, o5⟩ := ho
          exact ⟨⟨o1, o2, ⟨Int.le_refl _, o3.2.1, by simp only [lowT]; omega⟩, ⟨Int.le_refl _, o4.2.1, by simp only [lowT]; omega⟩, o5⟩, rfl⟩)
        have hvB := listS_valid hv (S := chS highT l l.length) (fun j hj => by
          have ho := (hv.2 j hj).2.1
          rw [← strAt_eq] at ho
          simp only [chS, hj, if_true]
          obtain ⟨o1, o2, o3, o4, o5⟩ := ho
          exact ⟨⟨o1, o2, ⟨Int.le_refl _, by simp only [highT]; omega, o3.2.2⟩, ⟨Int.le_refl _, by simp only [highT]; omega, o4.2.2⟩, o5⟩, rfl⟩)
        have s1 : ∀ f : Str → Int, ∀ j, j < b - a → f (strAt (listS (chS lowT l l.length) l.length) (a + j)) = f (lowT (strAt l (a + j))) := fun f j hj => by rw [listS_get _ (by omega)]; simp [chS, show a + j < l.length by omega]
        have s2 : ∀ f : Str → Int, ∀ j, j < b - a → f (strAt (listS (chS highT l l.length) l.length) (a + j)) = f (highT (strAt l (a + j))) := fun f j hj => by rw [listS_get _ (by omega)]; simp [chS, show a + j < l.length by omega]
        repeat (first
         |(with_reducible first|apply X1|apply X2|apply X3|apply X4|apply X5|apply X6|apply X7|apply X8|apply X9|apply Y1|apply Y2|apply Y3|apply Y4|apply Y5|apply Y6|apply Y7|apply Y8|apply Y9)
         |((with_reducible apply q_block_other);decide)
         |((with_reducible first|apply e_end|apply d_end);(simp;exact Red.rfl))
         |((first|((with_reducible apply O1);rfl)|((with_reducible apply O2);rfl)|((with_reducible apply P1);rfl)|((with_reducible apply P2);rfl)|((with_reducible apply P3);rfl)|((with_reducible apply P4);rfl)|((with_reducible apply P5);rfl));(simp (disch:=omega) [hlt, hlt2];exact Red.rfl);exact Red.rfl;(focus (first|(simp;done)|omega|(simp;omega))))
         |((with_reducible first|apply Z7|apply Z8|apply Z9);(simp (disch:=omega) [hlt, hlt2];exact Red.rfl))
         |((with_reducible first|apply Z1|apply Z2|apply Z3|apply Z4|apply Z5|apply Z6);(simp (disch:=omega) [hlt, hlt2];exact Red.rfl))
         |((with_reducible first|apply W1|apply W2|apply W3);(simp (disch:=omega) [hlt, hlt2];exact Red.rfl))
         |((with_reducible apply P6);rfl;(simp (disch:=omega) [hlt, hlt2];exact Red.rfl);exact Red.rfl;(focus (first|(simp [pr];done)|(simp [pr];omega))))
         |((with_reducible apply P7);rfl;(simp (disch:=omega) [hlt, hlt2];exact Red.rfl);exact Red.rfl;(focus (simp [repast, pr, AOp.sem];done))))
        (with_reducible apply e_call); (simp; exact Red.rfl); exact c_DropS _ _ _ _ true _ a b (by rw [at_new]; rfl) hvA hab hb2
        rintro _ _ ⟨rfl, rfl⟩
        repeat (first
         |(with_reducible first|apply X1|apply X2|apply X3|apply X4|apply X5|apply X6|apply X7|apply X8|apply X9|apply Y1|apply Y2|apply Y3|apply Y4|apply Y5|apply Y6|apply Y7|apply Y8|apply Y9)
         |((with_reducible apply q_block_other);decide)
         |((with_reducible first|apply e_end|apply d_end);(simp;exact Red.rfl))
         |((first|((with_reducible apply O1);rfl)|((with_reducible apply O2);rfl)|((with_reducible apply P1);rfl)|((with_reducible apply P2);rfl)|((with_reducible apply P3);rfl)|((with_reducible apply P4);rfl)|((with_reducible apply P5);rfl));(simp (disch:=omega);exact Red.rfl);exact Red.rfl;(focus (first|(simp;done)|omega|(simp;omega))))
         |((with_reducible first|apply Z7|apply Z8|apply Z9);(simp (disch:=omega);exact Red.rfl))
         |((with_reducible first|apply Z1|apply Z2|apply Z3|apply Z4|apply Z5|apply Z6);(simp (disch:=omega);exact Red.rfl))
         |((with_reducible first|apply W1|apply W2|apply W3);(simp (disch:=omega);exact Red.rfl))
         |((with_reducible apply P6);rfl;(simp (disch:=omega);exact Red.rfl);exact Red.rfl;(focus (first|(simp [pr];done)|(simp [pr];omega))))
         |((with_reducible apply P7);rfl;(simp (disch:=omega);exact Red.rfl);exact Red.rfl;(focus (simp [repast, pr, AOp.sem];done))))
        (with_reducible apply e_call); (simp; exact Red.rfl); exact c_DropS _ _ _ _ true _ a b (by rw [at_new]; rfl) hvB hab hb2
        rintro _ _ ⟨rfl, rfl⟩
        rw [sumF_congr (f := kLo kLong (listS (chS lowT l l.length) l.length)) (g := kLo kLong l) (s1 Str.lLo), sumF_congr (f := kHi kLong (listS (chS lowT l l.length) l.length)) (g := kLo kLong l) (s1 Str.lHi),
          sumF_congr (f := kLo kFall (listS (chS lowT l l.length) l.length)) (g := kLo kFall l) (s1 Str.fLo), sumF_congr (f := kHi kFall (listS (chS lowT l l.length) l.length)) (g := kLo kFall l) (s1 Str.fHi),
          sumF_congr (f := kLo kLong (listS (chS highT l l.length) l.length)) (g := kHi kLong l) (s2 Str.lLo), sumF_congr (f := kHi kLong (listS (chS highT l l.length) l.length)) (g := kHi kLong l) (s2 Str.lHi),
          sumF_congr (f := kLo kFall (listS (chS highT l l.length) l.length)) (g := kHi kFall l) (s2 Str.fLo), sumF_congr (f := kHi kFall (listS (chS highT l l.length) l.length)) (g := kHi kFall l) (s2 Str.fHi)]
        repeat (first
         |(with_reducible first|apply X1|apply X2|apply X3|apply X4|apply X5|apply X6|apply X7|apply X8|apply X9|apply Y1|apply Y2|apply Y3|apply Y4|apply Y5|apply Y6|apply Y7|apply Y8|apply Y9)
         |((with_reducible apply q_block_other);decide)
         |((with_reducible first|apply e_end|apply d_end);(simp;exact Red.rfl))
         |((first|((with_reducible apply O1);rfl)|((with_reducible apply O2);rfl)|((with_reducible apply P1);rfl)|((with_reducible apply P2);rfl)|((with_reducible apply P3);rfl)|((with_reducible apply P4);rfl)|((with_reducible apply P5);rfl));(simp (disch:=omega);exact Red.rfl);exact Red.rfl;(focus (first|(simp;done)|omega|(simp;omega))))
         |((with_reducible first|apply Z7|apply Z8|apply Z9);(simp (disch:=omega);exact Red.rfl))
         |((with_reducible first|apply Z1|apply Z2|apply Z3|apply Z4|apply Z5|apply Z6);(simp (disch:=omega);exact Red.rfl))
         |((with_reducible first|apply W1|apply W2|apply W3);(simp (disch:=omega);exact Red.rfl))
         |((with_reducible apply P6);rfl;(simp (disch:=omega);exact Red.rfl);exact Red.rfl;(focus (first|(simp [pr];done)|(simp [pr];omega))))
         |((with_reducible apply P7);rfl;(simp (disch:=omega);exact Red.rfl);exact Red.rfl;(focus (simp [repast, pr, AOp.sem];done))))
        (with_reducible apply d_call); (simp; exact Red.rfl); exact c_span _ _ _; (focus (first | (simp; done) | (simp; omega)))
        repeat (first
         |(with_reducible first|apply X1|apply X2|apply X3|apply X4|apply X5|apply X6|apply X7|apply X8|apply X9|apply Y1|apply Y2|apply Y3|apply Y4|apply Y5|apply Y6|apply Y7|apply Y8|apply Y9)
         |((with_reducible apply q_block_other);decide)
         |((with_reducible first|apply e_end|apply d_end);(simp;exact Red.rfl))
         |((first|((with_reducible apply O1);rfl)|((with_reducible apply O2);rfl)|((with_reducible apply P1);rfl)|((with_reducible apply P2);rfl)|((with_reducible apply P3);rfl)|((with_reducible apply P4);rfl)|((with_reducible apply P5);rfl));(simp (disch:=omega);exact Red.rfl);exact Red.rfl;(focus (first|(simp;done)|omega|(simp;omega))))
         |((with_reducible first|apply Z7|apply Z8|apply Z9);(simp (disch:=omega);exact Red.rfl))
         |((with_reducible first|apply Z1|apply Z2|apply Z3|apply Z4|apply Z5|apply Z6);(simp (disch:=omega);exact Red.rfl))
         |((with_reducible first|apply W1|apply W2|apply W3);(simp (disch:=omega);exact Red.rfl))
         |((with_reducible apply P6);rfl;(simp (disch:=omega);exact Red.rfl);exact Red.rfl;(focus (first|(simp [pr];done)|(simp [pr];omega))))
         |((with_reducible apply P7);rfl;(simp (disch:=omega);exact Red.rfl);exact Red.rfl;(focus (simp [repast, pr, AOp.sem];done))))
        (with_reducible apply d_call); (simp; exact Red.rfl); exact c_span _ _ _; (focus (first | (simp; done) | (simp; omega)))
        repeat (first
         |(with_reducible first|apply X1|apply X2|apply X3|apply X4|apply X5|apply X6|apply X7|apply X8|apply X9|apply Y1|apply Y2|apply Y3|apply Y4|apply Y5|apply Y6|apply Y7|apply Y8|apply Y9)
         |((with_reducible apply q_block_other);decide)
         |((with_reducible first|apply e_end|apply d_end);(simp;exact Red.rfl))
         |((first|((with_reducible apply O1);rfl)|((with_reducible apply O2);rfl)|((with_reducible apply P1);rfl)|((with_reducible apply P2);rfl)|((with_reducible apply P3);rfl)|((with_reducible apply P4);rfl)|((with_reducible apply P5);rfl));(simp (disch:=omega);exact Red.rfl);exact Red.rfl;(focus (first|(simp;done)|omega|(simp;omega))))
         |((with_reducible first|apply Z7|apply Z8|apply Z9);(simp (disch:=omega);exact Red.rfl))
         |((with_reducible first|apply Z1|apply Z2|apply Z3|apply Z4|apply Z5|apply Z6);(simp (disch:=omega);exact Red.rfl))
         |((with_reducible first|apply W1|apply W2|apply W3);(simp (disch:=omega);exact Red.rfl))
         |((with_reducible apply P6);rfl;(simp (disch:=omega);exact Red.rfl);exact Red.rfl;(focus (first|(simp [pr];done)|(simp [pr];omega))))
         |((with_reducible apply P7);rfl;(simp (disch:=omega);exact Red.rfl);exact Red.rfl;(focus (simp [repast, pr, AOp.sem];done))))
        (with_reducible apply d_call); (simp; exact Red.rfl); exact c_span _ _ _; (focus (first | (simp; done) | (simp; omega)))
        repeat (first
         |(with_reducible first|apply X1|apply X2|apply X3|apply X4|apply X5|apply X6|apply X7|apply X8|apply X9|apply Y1|apply Y2|apply Y3|apply Y4|apply Y5|apply Y6|apply Y7|apply Y8|apply Y9)
         |((with_reducible apply q_block_other);decide)
         |((with_reducible first|apply e_end|apply d_end);(simp;exact Red.rfl))
         |((first|((with_reducible apply O1);rfl)|((with_reducible apply O2);rfl)|((with_reducible apply P1);rfl)|((with_reducible apply P2);rfl)|((with_reducible apply P3);rfl)|((with_reducible apply P4);rfl)|((with_reducible apply P5);rfl));(simp (disch:=omega);exact Red.rfl);exact Red.rfl;(focus (first|(simp;done)|omega|(simp;omega))))
         |((with_reducible first|apply Z7|apply Z8|apply Z9);(simp (disch:=omega);exact Red.rfl))
         |((with_reducible first|apply Z1|apply Z2|apply Z3|apply Z4|apply Z5|apply Z6);(simp (disch:=omega);exact Red.rfl))
         |((with_reducible first|apply W1|apply W2|apply W3);(simp (disch:=omega);exact Red.rfl))
         |((with_reducible apply P6);rfl;(simp (disch:=omega);exact Red.rfl);exact Red.rfl;(focus (first|(simp [pr];done)|(simp [pr];omega))))
         |((with_reducible apply P7);rfl;(simp (disch:=omega);exact Red.rfl);exact Red.rfl;(focus (simp [repast, pr, AOp.sem];done))))
        (with_reducible apply d_call); (simp; exact Red.rfl); exact c_span _ _ _; (focus (first | (simp; done) | (simp; omega)))
        repeat (first
         |(with_reducible first|apply X1|apply X2|apply X3|apply X4|apply X5|apply X6|apply X7|apply X8|apply X9|apply Y1|apply Y2|apply Y3|apply Y4|apply Y5|apply Y6|apply Y7|apply Y8|apply Y9)
         |((with_reducible apply q_block_other);decide)
         |((with_reducible first|apply e_end|apply d_end);(simp;exact Red.rfl))
         |((first|((with_reducible apply O1);rfl)|((with_reducible apply O2);rfl)|((with_reducible apply P1);rfl)|((with_reducible apply P2);rfl)|((with_reducible apply P3);rfl)|((with_reducible apply P4);rfl)|((with_reducible apply P5);rfl));(simp (disch:=omega);exact Red.rfl);exact Red.rfl;(focus (first|(simp;done)|omega|(simp;omega))))
         |((with_reducible first|apply Z7|apply Z8|apply Z9);(simp (disch:=omega);exact Red.rfl))
         |((with_reducible first|apply Z1|apply Z2|apply Z3|apply Z4|apply Z5|apply Z6);(simp (disch:=omega);exact Red.rfl))
         |((with_reducible first|apply W1|apply W2|apply W3);(simp (disch:=omega);exact Red.rfl))
         |((with_reducible apply P6);rfl;(simp (disch:=omega);exact Red.rfl);exact Red.rfl;(focus (first|(simp [pr];done)|(simp [pr];omega))))
         |((with_reducible apply P7);rfl;(simp (disch:=omega);exact Red.rfl);exact Red.rfl;(focus (simp [repast, pr, AOp.sem];done))))
        exact q_drop (.inr rfl) (by simp; exact Red.rfl) (by simp) rfl
end Go.Proofs
