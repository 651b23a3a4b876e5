/- The law TrackPlaced. -/
import Derived.Test.YthhhmbkbfpcojaaE5
import Derived.Test.YthhhmbkbfpcojaaRunTrackAlive
namespace Go.Proofs
open Go.Abs
attribute [local simp] AOp.den AOpd.ev lk cellsOf rd_new rd_new0 rd_zero rd_succ wr_new wr_new0 wr_zero wr_succ splice fillA binA scal sliceCells List.length_append argsT AV.sc scL AObj.sc resV getAll AR.get AOp.slots opdSlots opdsSlots partSlots eqAt at_new0 at_new set_new0 set_new wrap64
set_option linter.unusedSimpArgs false
set_option linter.unusedVariables false
theorem mHi_succ (l : List Str) (i : Nat) : mHi l (i + 1) = mHi l i + (strAt l i).lHi := by simp [mHi, sumF]
theorem c_aliveU (H : Heap) : ACalls Try.prog F.law01_alive [] H (fun v h => v = .bool true ∧ h = H) := Try.true15 H
theorem mark_monoU {l : List Str} (hv : validL l) (us : List Int) {x y : Nat} (hxy : x ≤ y) (hy : y ≤ l.length) :
    0 ≤ mLo l y - mLo l x ∧ mLo l y - mLo l x ≤ sumF (longF us l) 0 y - sumF (longF us l) 0 x ∧ sumF (longF us l) 0 y - sumF (longF us l) 0 x ≤ mHi l y - mHi l x ∧ mHi l y - mHi l x ≤ 360000 := by
  obtain ⟨d, rfl⟩ : ∃ d, y = x + d := ⟨y - x, by omega⟩
  have hb := kind_bd kLong_ok hv hy
  have h1 : sumF (kLo kLong l) x d ≤ sumF (longF us l) x d := sumF_le fun j hj => by
    have ho := (hv.2 (x + j) (by omega)).2.1.2.2.1
    have e := strAt_eq (show x + j < l.length by omega)
    have := someF_in (b := chooseF us (2 * ((x + j : Nat) : Int))) (show (strAt l (x + j)).lLo ≤ (strAt l (x + j)).lHi by rw [e]; exact ho.1)
    exact this.1
  have h2 : sumF (longF us l) x d ≤ sumF (kHi kLong l) x d := sumF_le fun j hj => by
    have ho := (hv.2 (x + j) (by omega)).2.1.2.2.1
    have e := strAt_eq (show x + j < l.length by omega)
    have := someF_in (b := chooseF us (2 * ((x + j : Nat) : Int))) (show (strAt l (x + j)).lLo ≤ (strAt l (x + j)).lHi by rw [e]; exact ho.1)
    exact this.2
  have s1 := sumF_add (kLo kLong l) 0 x d
  have s2 := sumF_add (kHi kLong l) 0 x d
  have s3 := sumF_add (longF us l) 0 x d
  rw [Nat.zero_add] at s1 s2 s3
  have e1 : mLo l x = sumF (kLo kLong l) 0 x := rfl
  have e2 : mHi l x = sumF (kHi kLong l) 0 x := rfl
  have e3 : mLo l (x + d) = sumF (kLo kLong l) 0 (x + d) := rfl
  have e4 : mHi l (x + d) = sumF (kHi kLong l) 0 (x + d) := rfl
  omega
/-- Where a truth has a place. -/
def isF (T : Nat → Int) (at_ : Int) (n : Nat) : Nat → Nat
  | 0 => n
  | i + 1 => if T i ≤ at_ ∧ at_ < T (i + 1) then i else isF T at_ n i
theorem mod_ex' {a : Int} {n : Nat} (h0 : 0 ≤ a) : ∃ x : Nat, a.tmod ((n : Int) + 1) = x ∧ x ≤ n := by
  obtain ⟨x, h1, h2⟩ := mod_exn (n := (n : Int) + 1) h0 (by omega)
  exact ⟨x, h1, by omega⟩
theorem isF_sel {T : Nat → Int} {at_ : Int} {n : Nat} (h0 : T 0 ≤ at_) : ∀ m, (isF T at_ n m = n ∧ T m ≤ at_) ∨ (isF T at_ n m < m ∧ T (isF T at_ n m) ≤ at_ ∧ at_ < T (isF T at_ n m + 1))
  | 0 => .inl ⟨rfl, h0⟩
  | m + 1 => by
    simp only [isF]
    by_cases h : T m ≤ at_ ∧ at_ < T (m + 1)
    · rw [if_pos h]; exact .inr ⟨by omega, h⟩
    · rw [if_neg h]
      rcases isF_sel h0 m with h1 | h1
      · exact .inl ⟨h1.1, by omega⟩
      · exact .inr ⟨by omega, h1.2⟩

theorem longs_in' {l : List Str} (hv : validL l) (us : List Int) {n : Nat} (h : 0 + n ≤ l.length) : sumF (kLo kLong l) 0 n ≤ sumF (longF us l) 0 n ∧ sumF (longF us l) 0 n ≤ sumF (kHi kLong l) 0 n := by
  have := mark_monoU hv us (Nat.zero_le n) (show n ≤ l.length by omega)
  have e1 : mLo l n = sumF (kLo kLong l) 0 n := rfl
  have e2 : mHi l n = sumF (kHi kLong l) 0 n := rfl
  have e3 : mLo l 0 = 0 ∧ mHi l 0 = 0 ∧ sumF (longF us l) 0 0 = 0 := ⟨rfl, rfl, rfl⟩
  omega
set_option maxHeartbeats 4000000 in
theorem c_lawPlaced (H : Heap) (l : List Str) (where_ : Int) (us : List Int) (id off bid boff : Nat) (ex bex : Bool) (hs : rd H id off (l.length * 9) = some (l.flatMap Str.av))
    (hb : rd H bid boff us.length = some (us.map (.int .u32))) (hw : 0 ≤ where_ ∧ where_ ≤ 4294967295) (hu : ∀ u ∈ us, 0 ≤ u ∧ u ≤ 4294967295) (hn : (us.length : Int) ≤ 9223372036854775807) :
    ACalls Try.prog F.law01_TrackPlaced [.agg [.slice id off l.length 9 ex], .int .u32 where_, .slice bid boff us.length 1 bex] H (fun v _ => v = .bool true) := by
  refine acalls_of ok_law01_TrackPlaced rfl fun hcl => ?_
  unfold ac_law01_TrackPlaced
  simp only [argsT, Nat.zero_add, Nat.reduceAdd]
  have hid := rd_lt hs
  have hbid := rd_lt hb
  repeat (first
   |(with_reducible first|apply X1|apply X2|apply X3|apply X4|apply X5|apply X6|apply X7|apply X8|apply X9|apply Y1|apply Y2|apply Y3|apply Y4|apply Y5|apply Y6|apply Y7|apply Y8|apply Y9)
   |((with_reducible apply q_block_other);decide)
   |((with_reducible first|apply e_end|apply d_end);(simp;exact Red.rfl))
   |((first|((with_reducible apply O1);rfl)|((with_reducible apply O2);rfl)|((with_reducible apply P1);rfl)|((with_reducible apply P2);rfl)|((with_reducible apply P3);rfl)|((with_reducible apply P4);rfl)|((with_reducible apply P5);rfl));(simp (disch:=omega);exact Red.rfl);exact Red.rfl;(focus (first|(simp;done)|omega|(simp;omega))))
   |((with_reducible first|apply Z7|apply Z8|apply Z9);(simp (disch:=omega);exact Red.rfl))
   |((with_reducible first|apply Z1|apply Z2|apply Z3|apply Z4|apply Z5|apply Z6);(simp (disch:=omega);exact Red.rfl))
   |((with_reducible first|apply W1|apply W2|apply W3);(simp (disch:=omega);exact Red.rfl))
   |((with_reducible apply P6);rfl;(simp (disch:=omega);exact Red.rfl);exact Red.rfl;(focus (first|(simp [pr];done)|(simp [pr];omega))))
   |((with_reducible apply P7);rfl;(simp (disch:=omega);exact Red.rfl);exact Red.rfl;(focus (simp [repast, pr, AOp.sem];done))))
  (with_reducible apply e_call); (simp; exact Red.rfl); exact c_aliveU _
  rintro _ _ ⟨rfl, rfl⟩
  repeat (first
   |(with_reducible first|apply X1|apply X2|apply X3|apply X4|apply X5|apply X6|apply X7|apply X8|apply X9|apply Y1|apply Y2|apply Y3|apply Y4|apply Y5|apply Y6|apply Y7|apply Y8|apply Y9)
   |((with_reducible apply q_block_other);decide)
   |((with_reducible first|apply e_end|apply d_end);(simp;exact Red.rfl))
   |((first|((with_reducible apply O1);rfl)|((with_reducible apply O2);rfl)|((with_reducible apply P1);rfl)|((with_reducible apply P2);rfl)|((with_reducible apply P3);rfl)|((with_reducible apply P4);rfl)|((with_reducible apply P5);rfl));(simp (disch:=omega);exact Red.rfl);exact Red.rfl;(focus (first|(simp;done)|omega|(simp;omega))))
   |((with_reducible first|apply Z7|apply Z8|apply Z9);(simp (disch:=omega);exact Red.rfl))
   |((with_reducible first|apply Z1|apply Z2|apply Z3|apply Z4|apply Z5|apply Z6);(simp (disch:=omega);exact Red.rfl))
   |((with_reducible first|apply W1|apply W2|apply W3);(simp (disch:=omega);exact Red.rfl))
   |((with_reducible apply P6);rfl;(simp (disch:=omega);exact Red.rfl);exact Red.rfl;(focus (first|(simp [pr];done)|(simp [pr];omega))))
   |((with_reducible apply P7);rfl;(simp (disch:=omega);exact Red.rfl);exact Red.rfl;(focus (simp [repast, pr, AOp.sem];done))))
  (with_reducible apply e_call); (simp; exact Red.rfl); exact c_ready _ l id off ex (by rw [rd_old _ hid]; exact hs)
  rintro _ _ ⟨rfl, b, rfl, hbv⟩
  cases b with
  | false =>
    repeat (first
     |(with_reducible first|apply X1|apply X2|apply X3|apply X4|apply X5|apply X6|apply X7|apply X8|apply X9|apply Y1|apply Y2|apply Y3|apply Y4|apply Y5|apply Y6|apply Y7|apply Y8|apply Y9)
     |((with_reducible apply q_block_other);decide)
     |((with_reducible first|apply e_end|apply d_end);(simp;exact Red.rfl))
     |((first|((with_reducible apply O1);rfl)|((with_reducible apply O2);rfl)|((with_reducible apply P1);rfl)|((with_reducible apply P2);rfl)|((with_reducible apply P3);rfl)|((with_reducible apply P4);rfl)|((with_reducible apply P5);rfl));(simp (disch:=omega);exact Red.rfl);exact Red.rfl;(focus (first|(simp;done)|omega|(simp;omega))))
     |((with_reducible first|apply Z7|apply Z8|apply Z9);(simp (disch:=omega);exact Red.rfl))
     |((with_reducible first|apply Z1|apply Z2|apply Z3|apply Z4|apply Z5|apply Z6);(simp (disch:=omega);exact Red.rfl))
     |((with_reducible first|apply W1|apply W2|apply W3);(simp (disch:=omega);exact Red.rfl))
     |((with_reducible apply P6);rfl;(simp (disch:=omega);exact Red.rfl);exact Red.rfl;(focus (first|(simp [pr];done)|(simp [pr];omega))))
     |((with_reducible apply P7);rfl;(simp (disch:=omega);exact Red.rfl);exact Red.rfl;(focus (simp [repast, pr, AOp.sem];done))))
    exact q_drop (.inr rfl) (by simp; exact Red.rfl) (by simp) rfl
  | true =>
    have hv := hbv.1 rfl
    have h12 := hv.1
    have hlA := (plain_r2 (mLo l) (mHi l)).length (l.length + 1)
    have plA := (plain_r2 (mLo l) (mHi l)).plain (l.length + 1)
    have get0 : ∀ k, k < l.length + 1 → ((avR (r2 (mLo l) (mHi l)) (l.length + 1)).drop (k * 2)).take 1 = [.int .i64 (mLo l k)] := fun k hk => (plain_r2 (mLo l) (mHi l)).part (c := 0) (m := 1) hk (by decide)
    have get1 : ∀ k, k < l.length + 1 → ((avR (r2 (mLo l) (mHi l)) (l.length + 1)).drop (k * 2 + 1)).take 1 = [.int .i64 (mHi l k)] := fun k hk => (plain_r2 (mLo l) (mHi l)).part (c := 1) (m := 1) hk (by decide)
    have bn := mark_bd hv (Nat.le_refl l.length)
    repeat (first
     |(with_reducible first|apply X1|apply X2|apply X3|apply X4|apply X5|apply X6|apply X7|apply X8|apply X9|apply Y1|apply Y2|apply Y3|apply Y4|apply Y5|apply Y6|apply Y7|apply Y8|apply Y9)
     |((with_reducible apply q_block_other);decide)
     |((with_reducible first|apply e_end|apply d_end);(simp;exact Red.rfl))
     |((first|((with_reducible apply O1);rfl)|((with_reducible apply O2);rfl)|((with_reducible apply P1);rfl)|((with_reducible apply P2);rfl)|((with_reducible apply P3);rfl)|((with_reducible apply P4);rfl)|((with_reducible apply P5);rfl));(simp (disch:=omega);exact Red.rfl);exact Red.rfl;(focus (first|(simp;done)|omega|(simp;omega))))
     |((with_reducible first|apply Z7|apply Z8|apply Z9);(simp (disch:=omega);exact Red.rfl))
     |((with_reducible first|apply Z1|apply Z2|apply Z3|apply Z4|apply Z5|apply Z6);(simp (disch:=omega);exact Red.rfl))
     |((with_reducible first|apply W1|apply W2|apply W3);(simp (disch:=omega);exact Red.rfl))
     |((with_reducible apply P6);rfl;(simp (disch:=omega);exact Red.rfl);exact Red.rfl;(focus (first|(simp [pr];done)|(simp [pr];omega))))
     |((with_reducible apply P7);rfl;(simp (disch:=omega);exact Red.rfl);exact Red.rfl;(focus (simp [repast, pr, AOp.sem];done))))
    (with_reducible apply e_call); (simp; exact Red.rfl); exact c_Marks _ l id off ex (by rw [rd_old _ hid]; exact hs) hv
    rintro _ _ ⟨rfl, rfl⟩
    have g1 := get1 l.length (by omega)
    have l1 : l.length * 2 + 2 ≤ (l.length + 1) * 2 := by omega
    have hlt : (l.length : Int) < (l.length : Int) + 1 := by omega
    have mn : ∃ x : Nat, where_.tmod ((if mHi l l.length + 100 < 360000 then mHi l l.length + 100 else 360000) + 1) = x ∧ x ≤ 360000 := by
      obtain ⟨x, h1, h2⟩ := mod_exn (n := (if mHi l l.length + 100 < 360000 then mHi l l.length + 100 else 360000) + 1) hw.1 (by split <;> omega)
      exact ⟨x, h1, by split at h2 <;> omega⟩
    obtain ⟨x, hx, hx2⟩ := mn
    have ne : ¬ (if mHi l l.length + 100 < 360000 then mHi l l.length + 100 else 360000) + 1 = 0 := by split <;> omega
    have wr1 : IntKind.i64.wrap ((if mHi l l.length + 100 < 360000 then mHi l l.length + 100 else 360000) + 1) = (if mHi l l.length + 100 < 360000 then mHi l l.length + 100 else 360000) + 1 := wrap64 (by split <;> omega) (by split <;> omega)
    repeat (first
     |(with_reducible first|apply X1|apply X2|apply X3|apply X4|apply X5|apply X6|apply X7|apply X8|apply X9|apply Y1|apply Y2|apply Y3|apply Y4|apply Y5|apply Y6|apply Y7|apply Y8|apply Y9)
     |((with_reducible apply q_block_other);decide)
     |((with_reducible first|apply e_end|apply d_end);(simp;exact Red.rfl))
     |((first|((with_reducible apply O1);rfl)|((with_reducible apply O2);rfl)|((with_reducible apply P1);rfl)|((with_reducible apply P2);rfl)|((with_reducible apply P3);rfl)|((with_reducible apply P4);rfl)|((with_reducible apply P5);rfl));(simp (disch:=omega) [hlA, g1, l1, hlt, ne, wr1, hx];exact Red.rfl);exact Red.rfl;(focus (first|(simp;done)|omega|(simp;omega))))
     |((with_reducible first|apply Z7|apply Z8|apply Z9);(simp (disch:=omega) [hlA, g1, l1, hlt, ne, wr1, hx];exact Red.rfl))
     |((with_reducible first|apply Z1|apply Z2|apply Z3|apply Z4|apply Z5|apply Z6);(simp (disch:=omega) [hlA, g1, l1, hlt, ne, wr1, hx];exact Red.rfl))
     |((with_reducible first|apply W1|apply W2|apply W3);(simp (disch:=omega) [hlA, g1, l1, hlt, ne, wr1, hx];exact Red.rfl))
     |((with_reducible apply P6);rfl;(simp (disch:=omega) [hlA, g1, l1, hlt, ne, wr1, hx];exact Red.rfl);exact Red.rfl;(focus (first|(simp [pr];done)|(simp [pr];omega))))
     |((with_reducible apply P7);rfl;(simp (disch:=omega) [hlA, g1, l1, hlt, ne, wr1, hx];exact Red.rfl);exact Red.rfl;(focus (simp [repast, pr, AOp.sem];done))))
    (with_reducible apply e_call); (simp; exact Red.rfl); exact c_choose _ us bid boff bex _ (by rw [rd_old _ hbid]; exact hb) hu (by omega) (by omega) hn
    rintro _ _ ⟨rfl, rfl⟩
    have hc := chooseF_ge hu 30
    generalize chooseF us 30 = c at *
    repeat (first
     |(with_reducible first|apply X1|apply X2|apply X3|apply X4|apply X5|apply X6|apply X7|apply X8|apply X9|apply Y1|apply Y2|apply Y3|apply Y4|apply Y5|apply Y6|apply Y7|apply Y8|apply Y9)
     |((with_reducible apply q_block_other);decide)
     |((with_reducible first|apply e_end|apply d_end);(simp;exact Red.rfl))
     |((first|((with_reducible apply O1);rfl)|((with_reducible apply O2);rfl)|((with_reducible apply P1);rfl)|((with_reducible apply P2);rfl)|((with_reducible apply P3);rfl)|((with_reducible apply P4);rfl)|((with_reducible apply P5);rfl));(simp (disch:=omega) [hlA, g1, l1, hlt, ne, hx];exact Red.rfl);exact Red.rfl;(focus (first|(simp;done)|omega|(simp;omega))))
     |((with_reducible first|apply Z7|apply Z8|apply Z9);(simp (disch:=omega) [hlA, g1, l1, hlt, ne, hx];exact Red.rfl))
     |((with_reducible first|apply Z1|apply Z2|apply Z3|apply Z4|apply Z5|apply Z6);(simp (disch:=omega) [hlA, g1, l1, hlt, ne, hx];exact Red.rfl))
     |((with_reducible first|apply W1|apply W2|apply W3);(simp (disch:=omega) [hlA, g1, l1, hlt, ne, hx];exact Red.rfl))
     |((with_reducible apply P6);rfl;(simp (disch:=omega) [hlA, g1, l1, hlt, ne, hx];exact Red.rfl);exact Red.rfl;(focus (first|(simp [pr];done)|(simp [pr];omega))))
     |((with_reducible apply P7);rfl;(simp (disch:=omega) [hlA, g1, l1, hlt, ne, hx];exact Red.rfl);exact Red.rfl;(focus (simp [repast, pr, AOp.sem];done))))
    refine c_cut (fun t' h' => ∃ (at_ : Int) (tl : List (Nat × AV)), 0 ≤ at_ ∧ at_ ≤ 360000 ∧ t' = (2, .slice bid boff us.length 1 bex) :: (3, .ptr H.length 0) :: (7, .bool true) :: (8, .slice (H.length + 1) 0 (l.length + 1) 2 false) :: (10, .int .i64 l.length) :: (11, .int .i64 at_) :: tl ∧
      h' = H ++ [.cells [.slice id off l.length 9 ex] true, .cells (avR (r2 (mLo l) (mHi l)) (l.length + 1)) true]) ?_ ?_
    · by_cases h4 : c.tmod 4 = 0
      · have q4 : c.tdiv 4 = c / 4 := Int.tdiv_eq_ediv_of_nonneg hc.1
        have q64 : c.tdiv 64 = c / 64 := Int.tdiv_eq_ediv_of_nonneg hc.1
        obtain ⟨y, hy, hy2⟩ := mod_ex' (n := l.length) (show 0 ≤ c / 4 by omega)
        obtain ⟨z, hz, hz2⟩ := mod_exn (n := 3) (show 0 ≤ c / 64 by omega) (by omega)
        have by_ := mark_bd hv (show y ≤ l.length by omega)
        have g0 := get0 y (by omega)
        have l2 : y * 2 + 1 ≤ (l.length + 1) * 2 := by omega
        have hyl : (y : Int) < (l.length : Int) + 1 := by omega
        have hyl2 : y < l.length + 1 := by omega
        have hne : ¬ (l.length : Int) + 1 = 0 := by omega
        repeat (first
         |(with_reducible first|apply X1|apply X2|apply X3|apply X4|apply X5|apply X6|apply X7|apply X8|apply X9|apply Y1|apply Y2|apply Y3|apply Y4|apply Y5|apply Y6|apply Y7|apply Y8|apply Y9)
         |((with_reducible apply q_block_other);decide)
         |((with_reducible first|apply e_end|apply d_end);(simp;exact Red.rfl))
         |((first|((with_reducible apply O1);rfl)|((with_reducible apply O2);rfl)|((with_reducible apply P1);rfl)|((with_reducible apply P2);rfl)|((with_reducible apply P3);rfl)|((with_reducible apply P4);rfl)|((with_reducible apply P5);rfl));(simp (disch:=omega) [h4, q4, q64, hy, hz, g0, l2, hlA, hyl, hyl2, hne];exact Red.rfl);exact Red.rfl;(focus (first|(simp;done)|omega|(simp;omega))))
         |((with_reducible first|apply Z7|apply Z8|apply Z9);(simp (disch:=omega) [h4, q4, q64, hy, hz, g0, l2, hlA, hyl, hyl2, hne];exact Red.rfl))
         |((with_reducible first|apply Z1|apply Z2|apply Z3|apply Z4|apply Z5|apply Z6);(simp (disch:=omega) [h4, q4, q64, hy, hz, g0, l2, hlA, hyl, hyl2, hne];exact Red.rfl))
         |((with_reducible first|apply W1|apply W2|apply W3);(simp (disch:=omega) [h4, q4, q64, hy, hz, g0, l2, hlA, hyl, hyl2, hne];exact Red.rfl))
         |((with_reducible apply P6);rfl;(simp (disch:=omega) [h4, q4, q64, hy, hz, g0, l2, hlA, hyl, hyl2, hne];exact Red.rfl);exact Red.rfl;(focus (first|(simp [pr];done)|(simp [pr];omega))))
         |((with_reducible apply P7);rfl;(simp (disch:=omega) [h4, q4, q64, hy, hz, g0, l2, hlA, hyl, hyl2, hne];exact Red.rfl);exact Red.rfl;(focus (simp [repast, pr, AOp.sem];done))))
        exact q_cut ⟨_, [], by (repeat' split) <;> omega, by (repeat' split) <;> omega, rfl, rfl⟩
      · repeat (first
         |(with_reducible first|apply X1|apply X2|apply X3|apply X4|apply X5|apply X6|apply X7|apply X8|apply X9|apply Y1|apply Y2|apply Y3|apply Y4|apply Y5|apply Y6|apply Y7|apply Y8|apply Y9)
         |((with_reducible apply q_block_other);decide)
         |((with_reducible first|apply e_end|apply d_end);(simp;exact Red.rfl))
         |((first|((with_reducible apply O1);rfl)|((with_reducible apply O2);rfl)|((with_reducible apply P1);rfl)|((with_reducible apply P2);rfl)|((with_reducible apply P3);rfl)|((with_reducible apply P4);rfl)|((with_reducible apply P5);rfl));(simp (disch:=omega) [h4];exact Red.rfl);exact Red.rfl;(focus (first|(simp;done)|omega|(simp;omega))))
         |((with_reducible first|apply Z7|apply Z8|apply Z9);(simp (disch:=omega) [h4];exact Red.rfl))
         |((with_reducible first|apply Z1|apply Z2|apply Z3|apply Z4|apply Z5|apply Z6);(simp (disch:=omega) [h4];exact Red.rfl))
         |((with_reducible first|apply W1|apply W2|apply W3);(simp (disch:=omega) [h4];exact Red.rfl))
         |((with_reducible apply P6);rfl;(simp (disch:=omega) [h4];exact Red.rfl);exact Red.rfl;(focus (first|(simp [pr];done)|(simp [pr];omega))))
         |((with_reducible apply P7);rfl;(simp (disch:=omega) [h4];exact Red.rfl);exact Red.rfl;(focus (simp [repast, pr, AOp.sem];done))))
        exact q_cut ⟨x, _, by omega, by omega, rfl, rfl⟩
    rintro _ _ ⟨at_, tl, hat0, hat1, rfl, rfl⟩
    repeat (first
     |(with_reducible first|apply X1|apply X2|apply X3|apply X4|apply X5|apply X6|apply X7|apply X8|apply X9|apply Y1|apply Y2|apply Y3|apply Y4|apply Y5|apply Y6|apply Y7|apply Y8|apply Y9)
     |((with_reducible apply q_block_other);decide)
     |((with_reducible first|apply e_end|apply d_end);(simp;exact Red.rfl))
     |((first|((with_reducible apply O1);rfl)|((with_reducible apply O2);rfl)|((with_reducible apply P1);rfl)|((with_reducible apply P2);rfl)|((with_reducible apply P3);rfl)|((with_reducible apply P4);rfl)|((with_reducible apply P5);rfl));(simp (disch:=omega);exact Red.rfl);exact Red.rfl;(focus (first|(simp;done)|omega|(simp;omega))))
     |((with_reducible first|apply Z7|apply Z8|apply Z9);(simp (disch:=omega);exact Red.rfl))
     |((with_reducible first|apply Z1|apply Z2|apply Z3|apply Z4|apply Z5|apply Z6);(simp (disch:=omega);exact Red.rfl))
     |((with_reducible first|apply W1|apply W2|apply W3);(simp (disch:=omega);exact Red.rfl))
     |((with_reducible apply P6);rfl;(simp (disch:=omega);exact Red.rfl);exact Red.rfl;(focus (first|(simp [pr];done)|(simp [pr];omega))))
     |((with_reducible apply P7);rfl;(simp (disch:=omega);exact Red.rfl);exact Red.rfl;(focus (simp [repast, pr, AOp.sem];done))))
    (with_reducible apply e_call); (simp; exact Red.rfl); exact c_Place _ l at_ id off ex (by rw [rd_old _ hid]; exact hs) hv hat0 hat1
    rintro _ _ ⟨rfl, rfl⟩
    have hne := plL_ne hv hat0
    have hnl : ¬ (plL_ l at_).length = 0 := by simpa using hne
    repeat (first
     |(with_reducible first|apply X1|apply X2|apply X3|apply X4|apply X5|apply X6|apply X7|apply X8|apply X9|apply Y1|apply Y2|apply Y3|apply Y4|apply Y5|apply Y6|apply Y7|apply Y8|apply Y9)
     |((with_reducible apply q_block_other);decide)
     |((with_reducible first|apply e_end|apply d_end);(simp;exact Red.rfl))
     |((first|((with_reducible apply O1);rfl)|((with_reducible apply O2);rfl)|((with_reducible apply P1);rfl)|((with_reducible apply P2);rfl)|((with_reducible apply P3);rfl)|((with_reducible apply P4);rfl)|((with_reducible apply P5);rfl));(simp (disch:=omega) [hne, hnl];exact Red.rfl);exact Red.rfl;(focus (first|(simp;done)|omega|(simp;omega))))
     |((with_reducible first|apply Z7|apply Z8|apply Z9);(simp (disch:=omega) [hne, hnl];exact Red.rfl))
     |((with_reducible first|apply Z1|apply Z2|apply Z3|apply Z4|apply Z5|apply Z6);(simp (disch:=omega) [hne, hnl];exact Red.rfl))
     |((with_reducible first|apply W1|apply W2|apply W3);(simp (disch:=omega) [hne, hnl];exact Red.rfl))
     |((with_reducible apply P6);rfl;(simp (disch:=omega) [hne, hnl];exact Red.rfl);exact Red.rfl;(focus (first|(simp [pr];done)|(simp [pr];omega))))
     |((with_reducible apply P7);rfl;(simp (disch:=omega) [hne, hnl];exact Red.rfl);exact Red.rfl;(focus (simp [repast, pr, AOp.sem];done))))
    generalize hKS : plL_ l at_ = ks at *
    (with_reducible apply e_call); (simp; exact Red.rfl); exact c_truth _ l us id off bid boff ex bex (by rw [rd_old _ hid]; simpa using hs) hv (by rw [rd_old _ hbid]; simpa using hb) hu hn
    rintro _ _ ⟨rfl, rfl⟩
    repeat (first
     |(with_reducible first|apply X1|apply X2|apply X3|apply X4|apply X5|apply X6|apply X7|apply X8|apply X9|apply Y1|apply Y2|apply Y3|apply Y4|apply Y5|apply Y6|apply Y7|apply Y8|apply Y9)
     |((with_reducible apply q_block_other);decide)
     |((with_reducible first|apply e_end|apply d_end);(simp;exact Red.rfl))
     |((first|((with_reducible apply O1);rfl)|((with_reducible apply O2);rfl)|((with_reducible apply P1);rfl)|((with_reducible apply P2);rfl)|((with_reducible apply P3);rfl)|((with_reducible apply P4);rfl)|((with_reducible apply P5);rfl));(simp (disch:=omega);exact Red.rfl);exact Red.rfl;(focus (first|(simp;done)|omega|(simp;omega))))
     |((with_reducible first|apply Z7|apply Z8|apply Z9);(simp (disch:=omega);exact Red.rfl))
     |((with_reducible first|apply Z1|apply Z2|apply Z3|apply Z4|apply Z5|apply Z6);(simp (disch:=omega);exact Red.rfl))
     |((with_reducible first|apply W1|apply W2|apply W3);(simp (disch:=omega);exact Red.rfl))
     |((with_reducible apply P6);rfl;(simp (disch:=omega);exact Red.rfl);exact Red.rfl;(focus (first|(simp [pr];done)|(simp [pr];omega))))
     |((with_reducible apply P7);rfl;(simp (disch:=omega);exact Red.rfl);exact Red.rfl;(focus (simp [repast, pr, AOp.sem];done))))
    have lin : ∀ j, j < l.length → 0 ≤ longF us l j ∧ longF us l j ≤ 30000 := fun j hj => by
      have ho := lLo_bd hv hj
      have := someF_in (b := chooseF us (2 * j)) (show (strAt l j).lLo ≤ (strAt l j).lHi by omega)
      simp only [longF]; omega
    have pK := plainK ks
    refine e_loop (ι := { i : Nat // i ≤ l.length })
      (fun i => [(3, .ptr H.length 0), (7, .bool true), (8, .slice (H.length + 1) 0 (l.length + 1) 2 false), (10, .int .i64 l.length), (11, .int .i64 at_), (13, .slice (H.length + 2) 0 ks.length 1 false), (15, .slice (H.length + 3) 0 l.length 1 false),
        (17, .int .i64 (isF (sumF (longF us l) 0) at_ l.length i.1)), (102, .int .i64 l.length), (103, .int .i64 i.1)])
      (fun _ => H ++ [.cells [.slice id off l.length 9 ex] true, .cells (avR (r2 (mLo l) (mHi l)) (l.length + 1)) true, .cells (avK ks) true, .cells (avL (longF us l) l.length) true, .cells (avL (fallF us l) l.length) true]) (fun i => l.length - i.1) ⟨0, by simp⟩ ?_ ?_
    · exact .inr <| le_same (by simp [plA.sc, pK.sc, avL_sc]; omega) (by simp [Red, isF])
    rintro ⟨i, hi⟩
    dsimp only
    by_cases hil : i < l.length
    · have hil2 : (i : Int) < l.length := by omega
      have is1 : isF (sumF (longF us l) 0) at_ l.length (i + 1) = if sumF (longF us l) 0 i ≤ at_ ∧ at_ < sumF (longF us l) 0 (i + 1) then i else isF (sumF (longF us l) 0) at_ l.length i := rfl
      repeat (first
       |(with_reducible first|apply X1|apply X2|apply X3|apply X4|apply X5|apply X6|apply X7|apply X8|apply X9|apply Y1|apply Y2|apply Y3|apply Y4|apply Y5|apply Y6|apply Y7|apply Y8|apply Y9)
       |((with_reducible apply q_block_other);decide)
       |((with_reducible first|apply e_end|apply d_end);(simp;exact Red.rfl))
       |((first|((with_reducible apply O1);rfl)|((with_reducible apply O2);rfl)|((with_reducible apply P1);rfl)|((with_reducible apply P2);rfl)|((with_reducible apply P3);rfl)|((with_reducible apply P4);rfl)|((with_reducible apply P5);rfl));(simp (disch:=omega) [hil, hil2];exact Red.rfl);exact Red.rfl;(focus (first|(simp;done)|omega|(simp;omega))))
       |((with_reducible first|apply Z7|apply Z8|apply Z9);(simp (disch:=omega) [hil, hil2];exact Red.rfl))
       |((with_reducible first|apply Z1|apply Z2|apply Z3|apply Z4|apply Z5|apply Z6);(simp (disch:=omega) [hil, hil2];exact Red.rfl))
       |((with_reducible first|apply W1|apply W2|apply W3);(simp (disch:=omega) [hil, hil2];exact Red.rfl))
       |((with_reducible apply P6);rfl;(simp (disch:=omega) [hil, hil2];exact Red.rfl);exact Red.rfl;(focus (first|(simp [pr];done)|(simp [pr];omega))))
       |((with_reducible apply P7);rfl;(simp (disch:=omega) [hil, hil2];exact Red.rfl);exact Red.rfl;(focus (simp [repast, pr, AOp.sem];done))))
      (with_reducible apply e_call); (simp; exact Red.rfl); exact c_sum _ (longF us l) l.length _ 0 false 0 i (by simp [avL_length, avL_take]) lin (by omega) (by omega) (by omega)
      rintro _ _ ⟨rfl, rfl⟩
      by_cases h1 : sumF (longF us l) 0 i ≤ at_
      · repeat (first
         |(with_reducible first|apply X1|apply X2|apply X3|apply X4|apply X5|apply X6|apply X7|apply X8|apply X9|apply Y1|apply Y2|apply Y3|apply Y4|apply Y5|apply Y6|apply Y7|apply Y8|apply Y9)
         |((with_reducible apply q_block_other);decide)
         |((with_reducible first|apply e_end|apply d_end);(simp;exact Red.rfl))
         |((first|((with_reducible apply O1);rfl)|((with_reducible apply O2);rfl)|((with_reducible apply P1);rfl)|((with_reducible apply P2);rfl)|((with_reducible apply P3);rfl)|((with_reducible apply P4);rfl)|((with_reducible apply P5);rfl));(simp (disch:=omega) [hil, hil2, h1];exact Red.rfl);exact Red.rfl;(focus (first|(simp;done)|omega|(simp;omega))))
         |((with_reducible first|apply Z7|apply Z8|apply Z9);(simp (disch:=omega) [hil, hil2, h1];exact Red.rfl))
         |((with_reducible first|apply Z1|apply Z2|apply Z3|apply Z4|apply Z5|apply Z6);(simp (disch:=omega) [hil, hil2, h1];exact Red.rfl))
         |((with_reducible first|apply W1|apply W2|apply W3);(simp (disch:=omega) [hil, hil2, h1];exact Red.rfl))
         |((with_reducible apply P6);rfl;(simp (disch:=omega) [hil, hil2, h1];exact Red.rfl);exact Red.rfl;(focus (first|(simp [pr];done)|(simp [pr];omega))))
         |((with_reducible apply P7);rfl;(simp (disch:=omega) [hil, hil2, h1];exact Red.rfl);exact Red.rfl;(focus (simp [repast, pr, AOp.sem];done))))
        (with_reducible apply e_call); (simp; exact Red.rfl); exact c_sum _ (longF us l) l.length _ 0 false 0 (i + 1) (by simp [avL_length, avL_take]) lin (by omega) (by omega) (by omega)
        rintro _ _ ⟨rfl, rfl⟩
        by_cases h2 : at_ < sumF (longF us l) 0 (i + 1)
        · rw [if_pos ⟨h1, h2⟩] at is1
          repeat (first
           |(with_reducible first|apply X1|apply X2|apply X3|apply X4|apply X5|apply X6|apply X7|apply X8|apply X9|apply Y1|apply Y2|apply Y3|apply Y4|apply Y5|apply Y6|apply Y7|apply Y8|apply Y9)
           |((with_reducible apply q_block_other);decide)
           |((with_reducible first|apply e_end|apply d_end);(simp;exact Red.rfl))
           |((first|((with_reducible apply O1);rfl)|((with_reducible apply O2);rfl)|((with_reducible apply P1);rfl)|((with_reducible apply P2);rfl)|((with_reducible apply P3);rfl)|((with_reducible apply P4);rfl)|((with_reducible apply P5);rfl));(simp (disch:=omega) [hil, hil2, h1, h2];exact Red.rfl);exact Red.rfl;(focus (first|(simp;done)|omega|(simp;omega))))
           |((with_reducible first|apply Z7|apply Z8|apply Z9);(simp (disch:=omega) [hil, hil2, h1, h2];exact Red.rfl))
           |((with_reducible first|apply Z1|apply Z2|apply Z3|apply Z4|apply Z5|apply Z6);(simp (disch:=omega) [hil, hil2, h1, h2];exact Red.rfl))
           |((with_reducible first|apply W1|apply W2|apply W3);(simp (disch:=omega) [hil, hil2, h1, h2];exact Red.rfl))
           |((with_reducible apply P6);rfl;(simp (disch:=omega) [hil, hil2, h1, h2];exact Red.rfl);exact Red.rfl;(focus (first|(simp [pr];done)|(simp [pr];omega))))
           |((with_reducible apply P7);rfl;(simp (disch:=omega) [hil, hil2, h1, h2];exact Red.rfl);exact Red.rfl;(focus (simp [repast, pr, AOp.sem];done))))
          exact q_again ⟨i + 1, by omega⟩ (by dsimp only; omega) (.inr <| le_same (by simp [plA.sc, pK.sc, avL_sc]; omega) (by simp [Red, is1]))
        · rw [if_neg (by rintro ⟨_, h⟩; exact h2 h)] at is1
          repeat (first
           |(with_reducible first|apply X1|apply X2|apply X3|apply X4|apply X5|apply X6|apply X7|apply X8|apply X9|apply Y1|apply Y2|apply Y3|apply Y4|apply Y5|apply Y6|apply Y7|apply Y8|apply Y9)
           |((with_reducible apply q_block_other);decide)
           |((with_reducible first|apply e_end|apply d_end);(simp;exact Red.rfl))
           |((first|((with_reducible apply O1);rfl)|((with_reducible apply O2);rfl)|((with_reducible apply P1);rfl)|((with_reducible apply P2);rfl)|((with_reducible apply P3);rfl)|((with_reducible apply P4);rfl)|((with_reducible apply P5);rfl));(simp (disch:=omega) [hil, hil2, h1, h2];exact Red.rfl);exact Red.rfl;(focus (first|(simp;done)|omega|(simp;omega))))
           |((with_reducible first|apply Z7|apply Z8|apply Z9);(simp (disch:=omega) [hil, hil2, h1, h2];exact Red.rfl))
           |((with_reducible first|apply Z1|apply Z2|apply Z3|apply Z4|apply Z5|apply Z6);(simp (disch:=omega) [hil, hil2, h1, h2];exact Red.rfl))
           |((with_reducible first|apply W1|apply W2|apply W3);(simp (disch:=omega) [hil, hil2, h1, h2];exact Red.rfl))
           |((with_reducible apply P6);rfl;(simp (disch:=omega) [hil, hil2, h1, h2];exact Red.rfl);exact Red.rfl;(focus (first|(simp [pr];done)|(simp [pr];omega))))
           |((with_reducible apply P7);rfl;(simp (disch:=omega) [hil, hil2, h1, h2];exact Red.rfl);exact Red.rfl;(focus (simp [repast, pr, AOp.sem];done))))
          exact q_again ⟨i + 1, by omega⟩ (by dsimp only; omega) (.inr <| le_same (by simp [plA.sc, pK.sc, avL_sc]; omega) (by simp [Red, is1]))
      · rw [if_neg (by rintro ⟨h, _⟩; exact h1 h)] at is1
        repeat (first
         |(with_reducible first|apply X1|apply X2|apply X3|apply X4|apply X5|apply X6|apply X7|apply X8|apply X9|apply Y1|apply Y2|apply Y3|apply Y4|apply Y5|apply Y6|apply Y7|apply Y8|apply Y9)
         |((with_reducible apply q_block_other);decide)
         |((with_reducible first|apply e_end|apply d_end);(simp;exact Red.rfl))
         |((first|((with_reducible apply O1);rfl)|((with_reducible apply O2);rfl)|((with_reducible apply P1);rfl)|((with_reducible apply P2);rfl)|((with_reducible apply P3);rfl)|((with_reducible apply P4);rfl)|((with_reducible apply P5);rfl));(simp (disch:=omega) [hil, hil2, h1];exact Red.rfl);exact Red.rfl;(focus (first|(simp;done)|omega|(simp;omega))))
         |((with_reducible first|apply Z7|apply Z8|apply Z9);(simp (disch:=omega) [hil, hil2, h1];exact Red.rfl))
         |((with_reducible first|apply Z1|apply Z2|apply Z3|apply Z4|apply Z5|apply Z6);(simp (disch:=omega) [hil, hil2, h1];exact Red.rfl))
         |((with_reducible first|apply W1|apply W2|apply W3);(simp (disch:=omega) [hil, hil2, h1];exact Red.rfl))
         |((with_reducible apply P6);rfl;(simp (disch:=omega) [hil, hil2, h1];exact Red.rfl);exact Red.rfl;(focus (first|(simp [pr];done)|(simp [pr];omega))))
         |((with_reducible apply P7);rfl;(simp (disch:=omega) [hil, hil2, h1];exact Red.rfl);exact Red.rfl;(focus (simp [repast, pr, AOp.sem];done))))
        exact q_again ⟨i + 1, by omega⟩ (by dsimp only; omega) (.inr <| le_same (by simp [plA.sc, pK.sc, avL_sc]; omega) (by simp [Red, is1]))
    have hil2 : ¬ (i : Int) < l.length := by omega
    obtain rfl : i = l.length := by omega
    have his := isF_sel (T := sumF (longF us l) 0) (at_ := at_) (n := l.length) (by simpa [sumF] using hat0) l.length
    generalize isF (sumF (longF us l) 0) at_ l.length l.length = isv at his
    have his2 : isv ≤ l.length := by omega
    have hmem : isv ∈ ks := by
      have e1 := (longs_in' hv us (show 0 + isv ≤ l.length by omega)).1
      rw [← hKS]
      simp only [plL_, selF, List.mem_filter, List.mem_range, plSel, decide_eq_true_eq]
      refine ⟨by omega, ?_⟩
      rcases his with ⟨h1, h2⟩ | ⟨h1, h2, h3⟩
      · subst h1
        exact ⟨by show sumF (kLo kLong l) 0 l.length ≤ at_; omega, .inl rfl⟩
      · have e2 := (longs_in' hv us (show 0 + (isv + 1) ≤ l.length by omega)).2
        refine ⟨by show sumF (kLo kLong l) 0 isv ≤ at_; omega, .inr ?_⟩
        show at_ < sumF (kHi kLong l) 0 (isv + 1)
        omega
    have hall : ∀ k, (hk : k < ks.length) → ks[k] ≤ l.length ∧ plSel l at_ ks[k] = true := fun k hk => by
      have h1 : ks[k] ∈ ks := List.getElem_mem hk
      have h2 : ∀ x ∈ ks, x ≤ l.length ∧ plSel l at_ x = true := fun x hx => by
        rw [← hKS] at hx
        simp only [plL_, selF, List.mem_filter, List.mem_range] at hx
        exact ⟨by omega, hx.2⟩
      exact h2 _ h1
    have hsort : ∀ k, (hk : k < ks.length) → 0 < k → ks[k - 1] < ks[k] := fun k hk h0 => by
      have hp : ks.Pairwise (· < ·) := by rw [← hKS]; exact List.Pairwise.filter _ List.pairwise_lt_range
      exact List.pairwise_iff_getElem.1 hp (k - 1) k (by omega) hk (by omega)
    have hkl : ks.length ≤ 13 := by
      have := selF_len (plSel l at_) (l.length + 1)
      rw [← hKS]; simp only [plL_]; omega
    repeat (first
     |(with_reducible first|apply X1|apply X2|apply X3|apply X4|apply X5|apply X6|apply X7|apply X8|apply X9|apply Y1|apply Y2|apply Y3|apply Y4|apply Y5|apply Y6|apply Y7|apply Y8|apply Y9)
     |((with_reducible apply q_block_other);decide)
     |((with_reducible first|apply e_end|apply d_end);(simp;exact Red.rfl))
     |((first|((with_reducible apply O1);rfl)|((with_reducible apply O2);rfl)|((with_reducible apply P1);rfl)|((with_reducible apply P2);rfl)|((with_reducible apply P3);rfl)|((with_reducible apply P4);rfl)|((with_reducible apply P5);rfl));(simp (disch:=omega) [hil, hil2];exact Red.rfl);exact Red.rfl;(focus (first|(simp;done)|omega|(simp;omega))))
     |((with_reducible first|apply Z7|apply Z8|apply Z9);(simp (disch:=omega) [hil, hil2];exact Red.rfl))
     |((with_reducible first|apply Z1|apply Z2|apply Z3|apply Z4|apply Z5|apply Z6);(simp (disch:=omega) [hil, hil2];exact Red.rfl))
     |((with_reducible first|apply W1|apply W2|apply W3);(simp (disch:=omega) [hil, hil2];exact Red.rfl))
     |((with_reducible apply P6);rfl;(simp (disch:=omega) [hil, hil2];exact Red.rfl);exact Red.rfl;(focus (first|(simp [pr];done)|(simp [pr];omega))))
     |((with_reducible apply P7);rfl;(simp (disch:=omega) [hil, hil2];exact Red.rfl);exact Red.rfl;(focus (simp [repast, pr, AOp.sem];done))))
    have hkn := avK_length ks
    refine e_loop (ι := { p : Nat × Bool // p.1 ≤ ks.length ∧ (p.2 = true ↔ ∃ j, j < p.1 ∧ ks[j]? = some isv) })
      (fun p => [(3, .ptr H.length 0), (7, .bool true), (8, .slice (H.length + 1) 0 (l.length + 1) 2 false), (10, .int .i64 l.length), (11, .int .i64 at_), (13, .slice (H.length + 2) 0 ks.length 1 false), (17, .int .i64 isv), (19, .bool p.1.2),
        (121, .slice (H.length + 2) 0 ks.length 1 false), (122, .int .i64 ks.length), (123, .int .i64 p.1.1)])
      (fun _ => H ++ [.cells [.slice id off l.length 9 ex] true, .cells (avR (r2 (mLo l) (mHi l)) (l.length + 1)) true, .cells (avK ks) true]) (fun p => ks.length - p.1.1) ⟨(0, false), by simp⟩ ?_ ?_
    · exact .inr <| le_to0 [0, 1, 2] (by simp) (by simp [KeepAll, sh, AObj.ren, AV.ren, renL, plA.sc, plA.ren, pK.sc, pK.ren, hid]; omega) (by simp [sh, AV.ren])
    rintro ⟨⟨k, b⟩, hk, hb2⟩
    dsimp only at hk hb2 ⊢
    by_cases hlt : k < ks.length
    · have hlt2 : (k : Int) < ks.length := by omega
      have gk := avK_get hlt
      obtain ⟨ha1, ha2⟩ := hall k hlt
      have hs1 := hsort k hlt
      have hks : ks[k]? = some ks[k] := List.getElem?_eq_getElem hlt
      generalize hkv : ks[k] = v at gk ha1 ha2 hs1 hks
      have v0 : ¬ ((v : Int) < 0) := by omega
      have v1 : ¬ (l.length < v) := by omega
      have v2 : v < l.length + 1 := by omega
      have v3 : (v : Int) < (l.length : Int) + 1 := by omega
      have c1 : k + 1 ≤ ks.length := hlt
      have step : ∀ b' : Bool, (b' = true ↔ b = true ∨ v = isv) → (b' = true ↔ ∃ j, j < k + 1 ∧ ks[j]? = some isv) := by
        intro b' h
        rw [h, hb2]
        constructor
        · rintro (⟨j, h1, h2⟩ | rfl)
          · exact ⟨j, by omega, h2⟩
          · exact ⟨k, by omega, hks⟩
        · rintro ⟨j, h1, h2⟩
          by_cases hjk : j = k
          · subst hjk
            rw [hks] at h2
            exact .inr (by simpa using h2)
          · exact .inl ⟨j, by omega, h2⟩
      by_cases hk0 : 0 < k
      · have hlt3 : k - 1 < ks.length := by omega
        have gk1 := avK_get hlt3
        have hs2 := hs1 hk0
        generalize ks[k - 1] = u at gk1 hs2
        have hz : ((k : Int) - 1).toNat = k - 1 := by omega
        have hu1 : ¬ v ≤ u := by omega
        have c4 : k ≤ ks.length := by omega
        have c3 : (k : Int) - 1 < ks.length := by omega
        repeat (first
         |(with_reducible first|apply X1|apply X2|apply X3|apply X4|apply X5|apply X6|apply X7|apply X8|apply X9|apply Y1|apply Y2|apply Y3|apply Y4|apply Y5|apply Y6|apply Y7|apply Y8|apply Y9)
         |((with_reducible apply q_block_other);decide)
         |((with_reducible first|apply e_end|apply d_end);(simp;exact Red.rfl))
         |((first|((with_reducible apply O1);rfl)|((with_reducible apply O2);rfl)|((with_reducible apply P1);rfl)|((with_reducible apply P2);rfl)|((with_reducible apply P3);rfl)|((with_reducible apply P4);rfl)|((with_reducible apply P5);rfl));(simp (disch:=omega) [hlt, hlt2, hlt3, gk, hkn, c1, c4, c3, hk0, gk1, hz, hu1, v0, v1];exact Red.rfl);exact Red.rfl;(focus (first|(simp;done)|omega|(simp;omega))))
         |((with_reducible first|apply Z7|apply Z8|apply Z9);(simp (disch:=omega) [hlt, hlt2, hlt3, gk, hkn, c1, c4, c3, hk0, gk1, hz, hu1, v0, v1];exact Red.rfl))
         |((with_reducible first|apply Z1|apply Z2|apply Z3|apply Z4|apply Z5|apply Z6);(simp (disch:=omega) [hlt, hlt2, hlt3, gk, hkn, c1, c4, c3, hk0, gk1, hz, hu1, v0, v1];exact Red.rfl))
         |((with_reducible first|apply W1|apply W2|apply W3);(simp (disch:=omega) [hlt, hlt2, hlt3, gk, hkn, c1, c4, c3, hk0, gk1, hz, hu1, v0, v1];exact Red.rfl))
         |((with_reducible apply P6);rfl;(simp (disch:=omega) [hlt, hlt2, hlt3, gk, hkn, c1, c4, c3, hk0, gk1, hz, hu1, v0, v1];exact Red.rfl);exact Red.rfl;(focus (first|(simp [pr];done)|(simp [pr];omega))))
         |((with_reducible apply P7);rfl;(simp (disch:=omega) [hlt, hlt2, hlt3, gk, hkn, c1, c4, c3, hk0, gk1, hz, hu1, v0, v1];exact Red.rfl);exact Red.rfl;(focus (simp [repast, pr, AOp.sem];done))))
        have ha3 := of_decide_eq_true ha2
        have bv := mark_bd hv ha1
        have gv0 := get0 v v2
        have gv1 := get1 v v2
        have w1 : v * 2 + 1 ≤ (l.length + 1) * 2 := by omega
        have w2 : v * 2 + 2 ≤ (l.length + 1) * 2 := by omega
        have n1 : ¬ (mHi l v < mLo l v) := by omega
        have n2 : ¬ (at_ < mLo l v) := by omega
        cases b with
        | true =>
          have st := step true (by simp)
          by_cases hm : mHi l v < at_
          · by_cases hvn : v < l.length
            · have hx : rd H id (off + v * 9 + 2) 1 = some [.int .i64 (strAt l v).lHi] := rd_cell hs hvn (by decide)
              have hL := lLo_bd hv hvn
              have hmx := mHi_succ l v
              have hpl := ha3.2.resolve_left (by omega)
              have k1 : ¬ (mHi l v + (strAt l v).lHi ≤ at_) := by omega
              repeat (first
               |(with_reducible first|apply X1|apply X2|apply X3|apply X4|apply X5|apply X6|apply X7|apply X8|apply X9|apply Y1|apply Y2|apply Y3|apply Y4|apply Y5|apply Y6|apply Y7|apply Y8|apply Y9)
               |((with_reducible apply q_block_other);decide)
               |((with_reducible first|apply e_end|apply d_end);(simp;exact Red.rfl))
               |((first|((with_reducible apply O1);rfl)|((with_reducible apply O2);rfl)|((with_reducible apply P1);rfl)|((with_reducible apply P2);rfl)|((with_reducible apply P3);rfl)|((with_reducible apply P4);rfl)|((with_reducible apply P5);rfl));(simp (disch:=omega) [hlA, gv0, gv1, w1, w2, v2, v3, n1, n2, hm, hvn, rd_old _ hid, hx, k1];exact Red.rfl);exact Red.rfl;(focus (first|(simp;done)|omega|(simp;omega))))
               |((with_reducible first|apply Z7|apply Z8|apply Z9);(simp (disch:=omega) [hlA, gv0, gv1, w1, w2, v2, v3, n1, n2, hm, hvn, rd_old _ hid, hx, k1];exact Red.rfl))
               |((with_reducible first|apply Z1|apply Z2|apply Z3|apply Z4|apply Z5|apply Z6);(simp (disch:=omega) [hlA, gv0, gv1, w1, w2, v2, v3, n1, n2, hm, hvn, rd_old _ hid, hx, k1];exact Red.rfl))
               |((with_reducible first|apply W1|apply W2|apply W3);(simp (disch:=omega) [hlA, gv0, gv1, w1, w2, v2, v3, n1, n2, hm, hvn, rd_old _ hid, hx, k1];exact Red.rfl))
               |((with_reducible apply P6);rfl;(simp (disch:=omega) [hlA, gv0, gv1, w1, w2, v2, v3, n1, n2, hm, hvn, rd_old _ hid, hx, k1];exact Red.rfl);exact Red.rfl;(focus (first|(simp [pr];done)|(simp [pr];omega))))
               |((with_reducible apply P7);rfl;(simp (disch:=omega) [hlA, gv0, gv1, w1, w2, v2, v3, n1, n2, hm, hvn, rd_old _ hid, hx, k1];exact Red.rfl);exact Red.rfl;(focus (simp [repast, pr, AOp.sem];done))))
              exact q_again ⟨(k + 1, true), by dsimp only; omega, st⟩ (by dsimp only; omega) (.inr <| le_same (by simp [plA.sc, pK.sc]; omega) (by simp [Red]))
            · repeat (first
               |(with_reducible first|apply X1|apply X2|apply X3|apply X4|apply X5|apply X6|apply X7|apply X8|apply X9|apply Y1|apply Y2|apply Y3|apply Y4|apply Y5|apply Y6|apply Y7|apply Y8|apply Y9)
               |((with_reducible apply q_block_other);decide)
               |((with_reducible first|apply e_end|apply d_end);(simp;exact Red.rfl))
               |((first|((with_reducible apply O1);rfl)|((with_reducible apply O2);rfl)|((with_reducible apply P1);rfl)|((with_reducible apply P2);rfl)|((with_reducible apply P3);rfl)|((with_reducible apply P4);rfl)|((with_reducible apply P5);rfl));(simp (disch:=omega) [hlA, gv0, gv1, w1, w2, v2, v3, n1, n2, hm, hvn];exact Red.rfl);exact Red.rfl;(focus (first|(simp;done)|omega|(simp;omega))))
               |((with_reducible first|apply Z7|apply Z8|apply Z9);(simp (disch:=omega) [hlA, gv0, gv1, w1, w2, v2, v3, n1, n2, hm, hvn];exact Red.rfl))
               |((with_reducible first|apply Z1|apply Z2|apply Z3|apply Z4|apply Z5|apply Z6);(simp (disch:=omega) [hlA, gv0, gv1, w1, w2, v2, v3, n1, n2, hm, hvn];exact Red.rfl))
               |((with_reducible first|apply W1|apply W2|apply W3);(simp (disch:=omega) [hlA, gv0, gv1, w1, w2, v2, v3, n1, n2, hm, hvn];exact Red.rfl))
               |((with_reducible apply P6);rfl;(simp (disch:=omega) [hlA, gv0, gv1, w1, w2, v2, v3, n1, n2, hm, hvn];exact Red.rfl);exact Red.rfl;(focus (first|(simp [pr];done)|(simp [pr];omega))))
               |((with_reducible apply P7);rfl;(simp (disch:=omega) [hlA, gv0, gv1, w1, w2, v2, v3, n1, n2, hm, hvn];exact Red.rfl);exact Red.rfl;(focus (simp [repast, pr, AOp.sem];done))))
              exact q_again ⟨(k + 1, true), by dsimp only; omega, st⟩ (by dsimp only; omega) (.inr <| le_same (by simp [plA.sc, pK.sc]; omega) (by simp [Red]))
          · by_cases hvn : v < l.length
            · have hx : rd H id (off + v * 9 + 2) 1 = some [.int .i64 (strAt l v).lHi] := rd_cell hs hvn (by decide)
              have hL := lLo_bd hv hvn
              have hmx := mHi_succ l v
              have hpl := ha3.2.resolve_left (by omega)
              have k1 : ¬ (at_ + (strAt l v).lHi ≤ at_) := by omega
              have k2 : ¬ ((strAt l v).lHi ≤ 0) := by omega
              repeat (first
               |(with_reducible first|apply X1|apply X2|apply X3|apply X4|apply X5|apply X6|apply X7|apply X8|apply X9|apply Y1|apply Y2|apply Y3|apply Y4|apply Y5|apply Y6|apply Y7|apply Y8|apply Y9)
               |((with_reducible apply q_block_other);decide)
               |((with_reducible first|apply e_end|apply d_end);(simp;exact Red.rfl))
               |((first|((with_reducible apply O1);rfl)|((with_reducible apply O2);rfl)|((with_reducible apply P1);rfl)|((with_reducible apply P2);rfl)|((with_reducible apply P3);rfl)|((with_reducible apply P4);rfl)|((with_reducible apply P5);rfl));(simp (disch:=omega) [hlA, gv0, gv1, w1, w2, v2, v3, n1, n2, hm, hvn, rd_old _ hid, hx, k1, k2];exact Red.rfl);exact Red.rfl;(focus (first|(simp;done)|omega|(simp;omega))))
               |((with_reducible first|apply Z7|apply Z8|apply Z9);(simp (disch:=omega) [hlA, gv0, gv1, w1, w2, v2, v3, n1, n2, hm, hvn, rd_old _ hid, hx, k1, k2];exact Red.rfl))
               |((with_reducible first|apply Z1|apply Z2|apply Z3|apply Z4|apply Z5|apply Z6);(simp (disch:=omega) [hlA, gv0, gv1, w1, w2, v2, v3, n1, n2, hm, hvn, rd_old _ hid, hx, k1, k2];exact Red.rfl))
               |((with_reducible first|apply W1|apply W2|apply W3);(simp (disch:=omega) [hlA, gv0, gv1, w1, w2, v2, v3, n1, n2, hm, hvn, rd_old _ hid, hx, k1, k2];exact Red.rfl))
               |((with_reducible apply P6);rfl;(simp (disch:=omega) [hlA, gv0, gv1, w1, w2, v2, v3, n1, n2, hm, hvn, rd_old _ hid, hx, k1, k2];exact Red.rfl);exact Red.rfl;(focus (first|(simp [pr];done)|(simp [pr];omega))))
               |((with_reducible apply P7);rfl;(simp (disch:=omega) [hlA, gv0, gv1, w1, w2, v2, v3, n1, n2, hm, hvn, rd_old _ hid, hx, k1, k2];exact Red.rfl);exact Red.rfl;(focus (simp [repast, pr, AOp.sem];done))))
              exact q_again ⟨(k + 1, true), by dsimp only; omega, st⟩ (by dsimp only; omega) (.inr <| le_same (by simp [plA.sc, pK.sc]; omega) (by simp [Red]))
            · repeat (first
               |(with_reducible first|apply X1|apply X2|apply X3|apply X4|apply X5|apply X6|apply X7|apply X8|apply X9|apply Y1|apply Y2|apply Y3|apply Y4|apply Y5|apply Y6|apply Y7|apply Y8|apply Y9)
               |((with_reducible apply q_block_other);decide)
               |((with_reducible first|apply e_end|apply d_end);(simp;exact Red.rfl))
               |((first|((with_reducible apply O1);rfl)|((with_reducible apply O2);rfl)|((with_reducible apply P1);rfl)|((with_reducible apply P2);rfl)|((with_reducible apply P3);rfl)|((with_reducible apply P4);rfl)|((with_reducible apply P5);rfl));(simp (disch:=omega) [hlA, gv0, gv1, w1, w2, v2, v3, n1, n2, hm, hvn];exact Red.rfl);exact Red.rfl;(focus (first|(simp;done)|omega|(simp;omega))))
               |((with_reducible first|apply Z7|apply Z8|apply Z9);(simp (disch:=omega) [hlA, gv0, gv1, w1, w2, v2, v3, n1, n2, hm, hvn];exact Red.rfl))
               |((with_reducible first|apply Z1|apply Z2|apply Z3|apply Z4|apply Z5|apply Z6);(simp (disch:=omega) [hlA, gv0, gv1, w1, w2, v2, v3, n1, n2, hm, hvn];exact Red.rfl))
               |((with_reducible first|apply W1|apply W2|apply W3);(simp (disch:=omega) [hlA, gv0, gv1, w1, w2, v2, v3, n1, n2, hm, hvn];exact Red.rfl))
               |((with_reducible apply P6);rfl;(simp (disch:=omega) [hlA, gv0, gv1, w1, w2, v2, v3, n1, n2, hm, hvn];exact Red.rfl);exact Red.rfl;(focus (first|(simp [pr];done)|(simp [pr];omega))))
               |((with_reducible apply P7);rfl;(simp (disch:=omega) [hlA, gv0, gv1, w1, w2, v2, v3, n1, n2, hm, hvn];exact Red.rfl);exact Red.rfl;(focus (simp [repast, pr, AOp.sem];done))))
              exact q_again ⟨(k + 1, true), by dsimp only; omega, st⟩ (by dsimp only; omega) (.inr <| le_same (by simp [plA.sc, pK.sc]; omega) (by simp [Red]))
        | false =>
          by_cases hvi : v = isv
          · have st := step true (by simp [hvi])
            subst hvi
            by_cases hm : mHi l v < at_
            · by_cases hvn : v < l.length
              · have hx : rd H id (off + v * 9 + 2) 1 = some [.int .i64 (strAt l v).lHi] := rd_cell hs hvn (by decide)
                have hL := lLo_bd hv hvn
                have hmx := mHi_succ l v
                have hpl := ha3.2.resolve_left (by omega)
                have k1 : ¬ (mHi l v + (strAt l v).lHi ≤ at_) := by omega
                repeat (first
                 |(with_reducible first|apply X1|apply X2|apply X3|apply X4|apply X5|apply X6|apply X7|apply X8|apply X9|apply Y1|apply Y2|apply Y3|apply Y4|apply Y5|apply Y6|apply Y7|apply Y8|apply Y9)
                 |((with_reducible apply q_block_other);decide)
                 |((with_reducible first|apply e_end|apply d_end);(simp;exact Red.rfl))
                 |((first|((with_reducible apply O1);rfl)|((with_reducible apply O2);rfl)|((with_reducible apply P1);rfl)|((with_reducible apply P2);rfl)|((with_reducible apply P3);rfl)|((with_reducible apply P4);rfl)|((with_reducible apply P5);rfl));(simp (disch:=omega) [hlA, gv0, gv1, w1, w2, v2, v3, n1, n2, hm, hvn, rd_old _ hid, hx, k1];exact Red.rfl);exact Red.rfl;(focus (first|(simp;done)|omega|(simp;omega))))
                 |((with_reducible first|apply Z7|apply Z8|apply Z9);(simp (disch:=omega) [hlA, gv0, gv1, w1, w2, v2, v3, n1, n2, hm, hvn, rd_old _ hid, hx, k1];exact Red.rfl))
                 |((with_reducible first|apply Z1|apply Z2|apply Z3|apply Z4|apply Z5|apply Z6);(simp (disch:=omega) [hlA, gv0, gv1, w1, w2, v2, v3, n1, n2, hm, hvn, rd_old _ hid, hx, k1];exact Red.rfl))
                 |((with_reducible first|apply W1|apply W2|apply W3);(simp (disch:=omega) [hlA, gv0, gv1, w1, w2, v2, v3, n1, n2, hm, hvn, rd_old _ hid, hx, k1];exact Red.rfl))
                 |((with_reducible apply P6);rfl;(simp (disch:=omega) [hlA, gv0, gv1, w1, w2, v2, v3, n1, n2, hm, hvn, rd_old _ hid, hx, k1];exact Red.rfl);exact Red.rfl;(focus (first|(simp [pr];done)|(simp [pr];omega))))
                 |((with_reducible apply P7);rfl;(simp (disch:=omega) [hlA, gv0, gv1, w1, w2, v2, v3, n1, n2, hm, hvn, rd_old _ hid, hx, k1];exact Red.rfl);exact Red.rfl;(focus (simp [repast, pr, AOp.sem];done))))
                exact q_again ⟨(k + 1, true), by dsimp only; omega, st⟩ (by dsimp only; omega) (.inr <| le_same (by simp [plA.sc, pK.sc]; omega) (by simp [Red]))
              · repeat (first
                 |(with_reducible first|apply X1|apply X2|apply X3|apply X4|apply X5|apply X6|apply X7|apply X8|apply X9|apply Y1|apply Y2|apply Y3|apply Y4|apply Y5|apply Y6|apply Y7|apply Y8|apply Y9)
                 |((with_reducible apply q_block_other);decide)
                 |((with_reducible first|apply e_end|apply d_end);(simp;exact Red.rfl))
                 |((first|((with_reducible apply O1);rfl)|((with_reducible apply O2);rfl)|((with_reducible apply P1);rfl)|((with_reducible apply P2);rfl)|((with_reducible apply P3);rfl)|((with_reducible apply P4);rfl)|((with_reducible apply P5);rfl));(simp (disch:=omega) [hlA, gv0, gv1, w1, w2, v2, v3, n1, n2, hm, hvn];exact Red.rfl);exact Red.rfl;(focus (first|(simp;done)|omega|(simp;omega))))
                 |((with_reducible first|apply Z7|apply Z8|apply Z9);(simp (disch:=omega) [hlA, gv0, gv1, w1, w2, v2, v3, n1, n2, hm, hvn];exact Red.rfl))
                 |((with_reducible first|apply Z1|apply Z2|apply Z3|apply Z4|apply Z5|apply Z6);(simp (disch:=omega) [hlA, gv0, gv1, w1, w2, v2, v3, n1, n2, hm, hvn];exact Red.rfl))
                 |((with_reducible first|apply W1|apply W2|apply W3);(simp (disch:=omega) [hlA, gv0, gv1, w1, w2, v2, v3, n1, n2, hm, hvn];exact Red.rfl))
                 |((with_reducible apply P6);rfl;(simp (disch:=omega) [hlA, gv0, gv1, w1, w2, v2, v3, n1, n2, hm, hvn];exact Red.rfl);exact Red.rfl;(focus (first|(simp [pr];done)|(simp [pr];omega))))
                 |((with_reducible apply P7);rfl;(simp (disch:=omega) [hlA, gv0, gv1, w1, w2, v2, v3, n1, n2, hm, hvn];exact Red.rfl);exact Red.rfl;(focus (simp [repast, pr, AOp.sem];done))))
                exact q_again ⟨(k + 1, true), by dsimp only; omega, st⟩ (by dsimp only; omega) (.inr <| le_same (by simp [plA.sc, pK.sc]; omega) (by simp [Red]))
            · by_cases hvn : v < l.length
              · have hx : rd H id (off + v * 9 + 2) 1 = some [.int .i64 (strAt l v).lHi] := rd_cell hs hvn (by decide)
                have hL := lLo_bd hv hvn
                have hmx := mHi_succ l v
                have hpl := ha3.2.resolve_left (by omega)
                have k1 : ¬ (at_ + (strAt l v).lHi ≤ at_) := by omega
                have k2 : ¬ ((strAt l v).lHi ≤ 0) := by omega
                repeat (first
                 |(with_reducible first|apply X1|apply X2|apply X3|apply X4|apply X5|apply X6|apply X7|apply X8|apply X9|apply Y1|apply Y2|apply Y3|apply Y4|apply Y5|apply Y6|apply Y7|apply Y8|apply Y9)
                 |((with_reducible apply q_block_other);decide)
                 |((with_reducible first|apply e_end|apply d_end);(simp;exact Red.rfl))
                 |((first|((with_reducible apply O1);rfl)|((with_reducible apply O2);rfl)|((with_reducible apply P1);rfl)|((with_reducible apply P2);rfl)|((with_reducible apply P3);rfl)|((with_reducible apply P4);rfl)|((with_reducible apply P5);rfl));(simp (disch:=omega) [hlA, gv0, gv1, w1, w2, v2, v3, n1, n2, hm, hvn, rd_old _ hid, hx, k1, k2];exact Red.rfl);exact Red.rfl;(focus (first|(simp;done)|omega|(simp;omega))))
                 |((with_reducible first|apply Z7|apply Z8|apply Z9);(simp (disch:=omega) [hlA, gv0, gv1, w1, w2, v2, v3, n1, n2, hm, hvn, rd_old _ hid, hx, k1, k2];exact Red.rfl))
                 |((with_reducible first|apply Z1|apply Z2|apply Z3|apply Z4|apply Z5|apply Z6);(simp (disch:=omega) [hlA, gv0, gv1, w1, w2, v2, v3, n1, n2, hm, hvn, rd_old _ hid, hx, k1, k2];exact Red.rfl))
                 |((with_reducible first|apply W1|apply W2|apply W3);(simp (disch:=omega) [hlA, gv0, gv1, w1, w2, v2, v3, n1, n2, hm, hvn, rd_old _ hid, hx, k1, k2];exact Red.rfl))
                 |((with_reducible apply P6);rfl;(simp (disch:=omega) [hlA, gv0, gv1, w1, w2, v2, v3, n1, n2, hm, hvn, rd_old _ hid, hx, k1, k2];exact Red.rfl);exact Red.rfl;(focus (first|(simp [pr];done)|(simp [pr];omega))))
                 |((with_reducible apply P7);rfl;(simp (disch:=omega) [hlA, gv0, gv1, w1, w2, v2, v3, n1, n2, hm, hvn, rd_old _ hid, hx, k1, k2];exact Red.rfl);exact Red.rfl;(focus (simp [repast, pr, AOp.sem];done))))
                exact q_again ⟨(k + 1, true), by dsimp only; omega, st⟩ (by dsimp only; omega) (.inr <| le_same (by simp [plA.sc, pK.sc]; omega) (by simp [Red]))
              · repeat (first
                 |(with_reducible first|apply X1|apply X2|apply X3|apply X4|apply X5|apply X6|apply X7|apply X8|apply X9|apply Y1|apply Y2|apply Y3|apply Y4|apply Y5|apply Y6|apply Y7|apply Y8|apply Y9)
                 |((with_reducible apply q_block_other);decide)
                 |((with_reducible first|apply e_end|apply d_end);(simp;exact Red.rfl))
                 |((first|((with_reducible apply O1);rfl)|((with_reducible apply O2);rfl)|((with_reducible apply P1);rfl)|((with_reducible apply P2);rfl)|((with_reducible apply P3);rfl)|((with_reducible apply P4);rfl)|((with_reducible apply P5);rfl));(simp (disch:=omega) [hlA, gv0, gv1, w1, w2, v2, v3, n1, n2, hm, hvn];exact Red.rfl);exact Red.rfl;(focus (first|(simp;done)|omega|(simp;omega))))
                 |((with_reducible first|apply Z7|apply Z8|apply Z9);(simp (disch:=omega) [hlA, gv0, gv1, w1, w2, v2, v3, n1, n2, hm, hvn];exact Red.rfl))
                 |((with_reducible first|apply Z1|apply Z2|apply Z3|apply Z4|apply Z5|apply Z6);(simp (disch:=omega) [hlA, gv0, gv1, w1, w2, v2, v3, n1, n2, hm, hvn];exact Red.rfl))
                 |((with_reducible first|apply W1|apply W2|apply W3);(simp (disch:=omega) [hlA, gv0, gv1, w1, w2, v2, v3, n1, n2, hm, hvn];exact Red.rfl))
                 |((with_reducible apply P6);rfl;(simp (disch:=omega) [hlA, gv0, gv1, w1, w2, v2, v3, n1, n2, hm, hvn];exact Red.rfl);exact Red.rfl;(focus (first|(simp [pr];done)|(simp [pr];omega))))
                 |((with_reducible apply P7);rfl;(simp (disch:=omega) [hlA, gv0, gv1, w1, w2, v2, v3, n1, n2, hm, hvn];exact Red.rfl);exact Red.rfl;(focus (simp [repast, pr, AOp.sem];done))))
                exact q_again ⟨(k + 1, true), by dsimp only; omega, st⟩ (by dsimp only; omega) (.inr <| le_same (by simp [plA.sc, pK.sc]; omega) (by simp [Red]))
          · have st := step false (by simp [hvi])
            have hvi2 : ¬ (v : Int) = isv := by omega
            by_cases hm : mHi l v < at_
            · by_cases hvn : v < l.length
              · have hx : rd H id (off + v * 9 + 2) 1 = some [.int .i64 (strAt l v).lHi] := rd_cell hs hvn (by decide)
                have hL := lLo_bd hv hvn
                have hmx := mHi_succ l v
                have hpl := ha3.2.resolve_left (by omega)
                have k1 : ¬ (mHi l v + (strAt l v).lHi ≤ at_) := by omega
                repeat (first
                 |(with_reducible first|apply X1|apply X2|apply X3|apply X4|apply X5|apply X6|apply X7|apply X8|apply X9|apply Y1|apply Y2|apply Y3|apply Y4|apply Y5|apply Y6|apply Y7|apply Y8|apply Y9)
                 |((with_reducible apply q_block_other);decide)
                 |((with_reducible first|apply e_end|apply d_end);(simp;exact Red.rfl))
                 |((first|((with_reducible apply O1);rfl)|((with_reducible apply O2);rfl)|((with_reducible apply P1);rfl)|((with_reducible apply P2);rfl)|((with_reducible apply P3);rfl)|((with_reducible apply P4);rfl)|((with_reducible apply P5);rfl));(simp (disch:=omega) [hlA, gv0, gv1, w1, w2, v2, v3, n1, n2, hvi, hvi2, hm, hvn, rd_old _ hid, hx, k1];exact Red.rfl);exact Red.rfl;(focus (first|(simp;done)|omega|(simp;omega))))
                 |((with_reducible first|apply Z7|apply Z8|apply Z9);(simp (disch:=omega) [hlA, gv0, gv1, w1, w2, v2, v3, n1, n2, hvi, hvi2, hm, hvn, rd_old _ hid, hx, k1];exact Red.rfl))
                 |((with_reducible first|apply Z1|apply Z2|apply Z3|apply Z4|apply Z5|apply Z6);(simp (disch:=omega) [hlA, gv0, gv1, w1, w2, v2, v3, n1, n2, hvi, hvi2, hm, hvn, rd_old _ hid, hx, k1];exact Red.rfl))
                 |((with_reducible first|apply W1|apply W2|apply W3);(simp (disch:=omega) [hlA, gv0, gv1, w1, w2, v2, v3, n1, n2, hvi, hvi2, hm, hvn, rd_old _ hid, hx, k1];exact Red.rfl))
                 |((with_reducible apply P6);rfl;(simp (disch:=omega) [hlA, gv0, gv1, w1, w2, v2, v3, n1, n2, hvi, hvi2, hm, hvn, rd_old _ hid, hx, k1];exact Red.rfl);exact Red.rfl;(focus (first|(simp [pr];done)|(simp [pr];omega))))
                 |((with_reducible apply P7);rfl;(simp (disch:=omega) [hlA, gv0, gv1, w1, w2, v2, v3, n1, n2, hvi, hvi2, hm, hvn, rd_old _ hid, hx, k1];exact Red.rfl);exact Red.rfl;(focus (simp [repast, pr, AOp.sem];done))))
                exact q_again ⟨(k + 1, false), by dsimp only; omega, st⟩ (by dsimp only; omega) (.inr <| le_same (by simp [plA.sc, pK.sc]; omega) (by simp [Red]))
              · repeat (first
                 |(with_reducible first|apply X1|apply X2|apply X3|apply X4|apply X5|apply X6|apply X7|apply X8|apply X9|apply Y1|apply Y2|apply Y3|apply Y4|apply Y5|apply Y6|apply Y7|apply Y8|apply Y9)
                 |((with_reducible apply q_block_other);decide)
                 |((with_reducible first|apply e_end|apply d_end);(simp;exact Red.rfl))
                 |((first|((with_reducible apply O1);rfl)|((with_reducible apply O2);rfl)|((with_reducible apply P1);rfl)|((with_reducible apply P2);rfl)|((with_reducible apply P3);rfl)|((with_reducible apply P4);rfl)|((with_reducible apply P5);rfl));(simp (disch:=omega) [hlA, gv0, gv1, w1, w2, v2, v3, n1, n2, hvi, hvi2, hm, hvn];exact Red.rfl);exact Red.rfl;(focus (first|(simp;done)|omega|(simp;omega))))
                 |((with_reducible first|apply Z7|apply Z8|apply Z9);(simp (disch:=omega) [hlA, gv0, gv1, w1, w2, v2, v3, n1, n2, hvi, hvi2, hm, hvn];exact Red.rfl))
                 |((with_reducible first|apply Z1|apply Z2|apply Z3|apply Z4|apply Z5|apply Z6);(simp (disch:=omega) [hlA, gv0, gv1, w1, w2, v2, v3, n1, n2, hvi, hvi2, hm, hvn];exact Red.rfl))
                 |((with_reducible first|apply W1|apply W2|apply W3);(simp (disch:=omega) [hlA, gv0, gv1, w1, w2, v2, v3, n1, n2, hvi, hvi2, hm, hvn];exact Red.rfl))
                 |((with_reducible apply P6);rfl;(simp (disch:=omega) [hlA, gv0, gv1, w1, w2, v2, v3, n1, n2, hvi, hvi2, hm, hvn];exact Red.rfl);exact Red.rfl;(focus (first|(simp [pr];done)|(simp [pr];omega))))
                 |((with_reducible apply P7);rfl;(simp (disch:=omega) [hlA, gv0, gv1, w1, w2, v2, v3, n1, n2, hvi, hvi2, hm, hvn];exact Red.rfl);exact Red.rfl;(focus (simp [repast, pr, AOp.sem];done))))
                exact q_again ⟨(k + 1, false), by dsimp only; omega, st⟩ (by dsimp only; omega) (.inr <| le_same (by simp [plA.sc, pK.sc]; omega) (by simp [Red]))
            · by_cases hvn : v < l.length
              · have hx : rd H id (off + v * 9 + 2) 1 = some [.int .i64 (strAt l v).lHi] := rd_cell hs hvn (by decide)
                have hL := lLo_bd hv hvn
                have hmx := mHi_succ l v
                have hpl := ha3.2.resolve_left (by omega)
                have k1 : ¬ (at_ + (strAt l v).lHi ≤ at_) := by omega
                have k2 : ¬ ((strAt l v).lHi ≤ 0) := by omega
                repeat (first
                 |(with_reducible first|apply X1|apply X2|apply X3|apply X4|apply X5|apply X6|apply X7|apply X8|apply X9|apply Y1|apply Y2|apply Y3|apply Y4|apply Y5|apply Y6|apply Y7|apply Y8|apply Y9)
                 |((with_reducible apply q_block_other);decide)
                 |((with_reducible first|apply e_end|apply d_end);(simp;exact Red.rfl))
                 |((first|((with_reducible apply O1);rfl)|((with_reducible apply O2);rfl)|((with_reducible apply P1);rfl)|((with_reducible apply P2);rfl)|((with_reducible apply P3);rfl)|((with_reducible apply P4);rfl)|((with_reducible apply P5);rfl));(simp (disch:=omega) [hlA, gv0, gv1, w1, w2, v2, v3, n1, n2, hvi, hvi2, hm, hvn, rd_old _ hid, hx, k1, k2];exact Red.rfl);exact Red.rfl;(focus (first|(simp;done)|omega|(simp;omega))))
                 |((with_reducible first|apply Z7|apply Z8|apply Z9);(simp (disch:=omega) [hlA, gv0, gv1, w1, w2, v2, v3, n1, n2, hvi, hvi2, hm, hvn, rd_old _ hid, hx, k1, k2];exact Red.rfl))
                 |((with_reducible first|apply Z1|apply Z2|apply Z3|apply Z4|apply Z5|apply Z6);(simp (disch:=omega) [hlA, gv0, gv1, w1, w2, v2, v3, n1, n2, hvi, hvi2, hm, hvn, rd_old _ hid, hx, k1, k2];exact Red.rfl))
                 |((with_reducible first|apply W1|apply W2|apply W3);(simp (disch:=omega) [hlA, gv0, gv1, w1, w2, v2, v3, n1, n2, hvi, hvi2, hm, hvn, rd_old _ hid, hx, k1, k2];exact Red.rfl))
                 |((with_reducible apply P6);rfl;(simp (disch:=omega) [hlA, gv0, gv1, w1, w2, v2, v3, n1, n2, hvi, hvi2, hm, hvn, rd_old _ hid, hx, k1, k2];exact Red.rfl);exact Red.rfl;(focus (first|(simp [pr];done)|(simp [pr];omega))))
                 |((with_reducible apply P7);rfl;(simp (disch:=omega) [hlA, gv0, gv1, w1, w2, v2, v3, n1, n2, hvi, hvi2, hm, hvn, rd_old _ hid, hx, k1, k2];exact Red.rfl);exact Red.rfl;(focus (simp [repast, pr, AOp.sem];done))))
                exact q_again ⟨(k + 1, false), by dsimp only; omega, st⟩ (by dsimp only; omega) (.inr <| le_same (by simp [plA.sc, pK.sc]; omega) (by simp [Red]))
              · repeat (first
                 |(with_reducible first|apply X1|apply X2|apply X3|apply X4|apply X5|apply X6|apply X7|apply X8|apply X9|apply Y1|apply Y2|apply Y3|apply Y4|apply Y5|apply Y6|apply Y7|apply Y8|apply Y9)
                 |((with_reducible apply q_block_other);decide)
                 |((with_reducible first|apply e_end|apply d_end);(simp;exact Red.rfl))
                 |((first|((with_reducible apply O1);rfl)|((with_reducible apply O2);rfl)|((with_reducible apply P1);rfl)|((with_reducible apply P2);rfl)|((with_reducible apply P3);rfl)|((with_reducible apply P4);rfl)|((with_reducible apply P5);rfl));(simp (disch:=omega) [hlA, gv0, gv1, w1, w2, v2, v3, n1, n2, hvi, hvi2, hm, hvn];exact Red.rfl);exact Red.rfl;(focus (first|(simp;done)|omega|(simp;omega))))
                 |((with_reducible first|apply Z7|apply Z8|apply Z9);(simp (disch:=omega) [hlA, gv0, gv1, w1, w2, v2, v3, n1, n2, hvi, hvi2, hm, hvn];exact Red.rfl))
                 |((with_reducible first|apply Z1|apply Z2|apply Z3|apply Z4|apply Z5|apply Z6);(simp (disch:=omega) [hlA, gv0, gv1, w1, w2, v2, v3, n1, n2, hvi, hvi2, hm, hvn];exact Red.rfl))
                 |((with_reducible first|apply W1|apply W2|apply W3);(simp (disch:=omega) [hlA, gv0, gv1, w1, w2, v2, v3, n1, n2, hvi, hvi2, hm, hvn];exact Red.rfl))
                 |((with_reducible apply P6);rfl;(simp (disch:=omega) [hlA, gv0, gv1, w1, w2, v2, v3, n1, n2, hvi, hvi2, hm, hvn];exact Red.rfl);exact Red.rfl;(focus (first|(simp [pr];done)|(simp [pr];omega))))
                 |((with_reducible apply P7);rfl;(simp (disch:=omega) [hlA, gv0, gv1, w1, w2, v2, v3, n1, n2, hvi, hvi2, hm, hvn];exact Red.rfl);exact Red.rfl;(focus (simp [repast, pr, AOp.sem];done))))
                exact q_again ⟨(k + 1, false), by dsimp only; omega, st⟩ (by dsimp only; omega) (.inr <| le_same (by simp [plA.sc, pK.sc]; omega) (by simp [Red]))
      · repeat (first
         |(with_reducible first|apply X1|apply X2|apply X3|apply X4|apply X5|apply X6|apply X7|apply X8|apply X9|apply Y1|apply Y2|apply Y3|apply Y4|apply Y5|apply Y6|apply Y7|apply Y8|apply Y9)
         |((with_reducible apply q_block_other);decide)
         |((with_reducible first|apply e_end|apply d_end);(simp;exact Red.rfl))
         |((first|((with_reducible apply O1);rfl)|((with_reducible apply O2);rfl)|((with_reducible apply P1);rfl)|((with_reducible apply P2);rfl)|((with_reducible apply P3);rfl)|((with_reducible apply P4);rfl)|((with_reducible apply P5);rfl));(simp (disch:=omega) [hlt, hlt2, gk, hkn, c1, hk0, v0, v1];exact Red.rfl);exact Red.rfl;(focus (first|(simp;done)|omega|(simp;omega))))
         |((with_reducible first|apply Z7|apply Z8|apply Z9);(simp (disch:=omega) [hlt, hlt2, gk, hkn, c1, hk0, v0, v1];exact Red.rfl))
         |((with_reducible first|apply Z1|apply Z2|apply Z3|apply Z4|apply Z5|apply Z6);(simp (disch:=omega) [hlt, hlt2, gk, hkn, c1, hk0, v0, v1];exact Red.rfl))
         |((with_reducible first|apply W1|apply W2|apply W3);(simp (disch:=omega) [hlt, hlt2, gk, hkn, c1, hk0, v0, v1];exact Red.rfl))
         |((with_reducible apply P6);rfl;(simp (disch:=omega) [hlt, hlt2, gk, hkn, c1, hk0, v0, v1];exact Red.rfl);exact Red.rfl;(focus (first|(simp [pr];done)|(simp [pr];omega))))
         |((with_reducible apply P7);rfl;(simp (disch:=omega) [hlt, hlt2, gk, hkn, c1, hk0, v0, v1];exact Red.rfl);exact Red.rfl;(focus (simp [repast, pr, AOp.sem];done))))
        have ha3 := of_decide_eq_true ha2
        have bv := mark_bd hv ha1
        have gv0 := get0 v v2
        have gv1 := get1 v v2
        have w1 : v * 2 + 1 ≤ (l.length + 1) * 2 := by omega
        have w2 : v * 2 + 2 ≤ (l.length + 1) * 2 := by omega
        have n1 : ¬ (mHi l v < mLo l v) := by omega
        have n2 : ¬ (at_ < mLo l v) := by omega
        cases b with
        | true =>
          have st := step true (by simp)
          by_cases hm : mHi l v < at_
          · by_cases hvn : v < l.length
            · have hx : rd H id (off + v * 9 + 2) 1 = some [.int .i64 (strAt l v).lHi] := rd_cell hs hvn (by decide)
              have hL := lLo_bd hv hvn
              have hmx := mHi_succ l v
              have hpl := ha3.2.resolve_left (by omega)
              have k1 : ¬ (mHi l v + (strAt l v).lHi ≤ at_) := by omega
              repeat (first
               |(with_reducible first|apply X1|apply X2|apply X3|apply X4|apply X5|apply X6|apply X7|apply X8|apply X9|apply Y1|apply Y2|apply Y3|apply Y4|apply Y5|apply Y6|apply Y7|apply Y8|apply Y9)
               |((with_reducible apply q_block_other);decide)
               |((with_reducible first|apply e_end|apply d_end);(simp;exact Red.rfl))
               |((first|((with_reducible apply O1);rfl)|((with_reducible apply O2);rfl)|((with_reducible apply P1);rfl)|((with_reducible apply P2);rfl)|((with_reducible apply P3);rfl)|((with_reducible apply P4);rfl)|((with_reducible apply P5);rfl));(simp (disch:=omega) [hlA, gv0, gv1, w1, w2, v2, v3, n1, n2, hm, hvn, rd_old _ hid, hx, k1];exact Red.rfl);exact Red.rfl;(focus (first|(simp;done)|omega|(simp;omega))))
               |((with_reducible first|apply Z7|apply Z8|apply Z9);(simp (disch:=omega) [hlA, gv0, gv1, w1, w2, v2, v3, n1, n2, hm, hvn, rd_old _ hid, hx, k1];exact Red.rfl))
               |((with_reducible first|apply Z1|apply Z2|apply Z3|apply Z4|apply Z5|apply Z6);(simp (disch:=omega) [hlA, gv0, gv1, w1, w2, v2, v3, n1, n2, hm, hvn, rd_old _ hid, hx, k1];exact Red.rfl))
               |((with_reducible first|apply W1|apply W2|apply W3);(simp (disch:=omega) [hlA, gv0, gv1, w1, w2, v2, v3, n1, n2, hm, hvn, rd_old _ hid, hx, k1];exact Red.rfl))
               |((with_reducible apply P6);rfl;(simp (disch:=omega) [hlA, gv0, gv1, w1, w2, v2, v3, n1, n2, hm, hvn, rd_old _ hid, hx, k1];exact Red.rfl);exact Red.rfl;(focus (first|(simp [pr];done)|(simp [pr];omega))))
               |((with_reducible apply P7);rfl;(simp (disch:=omega) [hlA, gv0, gv1, w1, w2, v2, v3, n1, n2, hm, hvn, rd_old _ hid, hx, k1];exact Red.rfl);exact Red.rfl;(focus (simp [repast, pr, AOp.sem];done))))
              exact q_again ⟨(k + 1, true), by dsimp only; omega, st⟩ (by dsimp only; omega) (.inr <| le_same (by simp [plA.sc, pK.sc]; omega) (by simp [Red]))
            · repeat (first
               |(with_reducible first|apply X1|apply X2|apply X3|apply X4|apply X5|apply X6|apply X7|apply X8|apply X9|apply Y1|apply Y2|apply Y3|apply Y4|apply Y5|apply Y6|apply Y7|apply Y8|apply Y9)
               |((with_reducible apply q_block_other);decide)
               |((with_reducible first|apply e_end|apply d_end);(simp;exact Red.rfl))
               |((first|((with_reducible apply O1);rfl)|((with_reducible apply O2);rfl)|((with_reducible apply P1);rfl)|((with_reducible apply P2);rfl)|((with_reducible apply P3);rfl)|((with_reducible apply P4);rfl)|((with_reducible apply P5);rfl));(simp (disch:=omega) [hlA, gv0, gv1, w1, w2, v2, v3, n1, n2, hm, hvn];exact Red.rfl);exact Red.rfl;(focus (first|(simp;done)|omega|(simp;omega))))
               |((with_reducible first|apply Z7|apply Z8|apply Z9);(simp (disch:=omega) [hlA, gv0, gv1, w1, w2, v2, v3, n1, n2, hm, hvn];exact Red.rfl))
               |((with_reducible first|apply Z1|apply Z2|apply Z3|apply Z4|apply Z5|apply Z6);(simp (disch:=omega) [hlA, gv0, gv1, w1, w2, v2, v3, n1, n2, hm, hvn];exact Red.rfl))
               |((with_reducible first|apply W1|apply W2|apply W3);(simp (disch:=omega) [hlA, gv0, gv1, w1, w2, v2, v3, n1, n2, hm, hvn];exact Red.rfl))
               |((with_reducible apply P6);rfl;(simp (disch:=omega) [hlA, gv0, gv1, w1, w2, v2, v3, n1, n2, hm, hvn];exact Red.rfl);exact Red.rfl;(focus (first|(simp [pr];done)|(simp [pr];omega))))
               |((with_reducible apply P7);rfl;(simp (disch:=omega) [hlA, gv0, gv1, w1, w2, v2, v3, n1, n2, hm, hvn];exact Red.rfl);exact Red.rfl;(focus (simp [repast, pr, AOp.sem];done))))
              exact q_again ⟨(k + 1, true), by dsimp only; omega, st⟩ (by dsimp only; omega) (.inr <| le_same (by simp [plA.sc, pK.sc]; omega) (by simp [Red]))
          · by_cases hvn : v < l.length
            · have hx : rd H id (off + v * 9 + 2) 1 = some [.int .i64 (strAt l v).lHi] := rd_cell hs hvn (by decide)
              have hL := lLo_bd hv hvn
              have hmx := mHi_succ l v
              have hpl := ha3.2.resolve_left (by omega)
              have k1 : ¬ (at_ + (strAt l v).lHi ≤ at_) := by omega
              have k2 : ¬ ((strAt l v).lHi ≤ 0) := by omega
              repeat (first
               |(with_reducible first|apply X1|apply X2|apply X3|apply X4|apply X5|apply X6|apply X7|apply X8|apply X9|apply Y1|apply Y2|apply Y3|apply Y4|apply Y5|apply Y6|apply Y7|apply Y8|apply Y9)
               |((with_reducible apply q_block_other);decide)
               |((with_reducible first|apply e_end|apply d_end);(simp;exact Red.rfl))
               |((first|((with_reducible apply O1);rfl)|((with_reducible apply O2);rfl)|((with_reducible apply P1);rfl)|((with_reducible apply P2);rfl)|((with_reducible apply P3);rfl)|((with_reducible apply P4);rfl)|((with_reducible apply P5);rfl));(simp (disch:=omega) [hlA, gv0, gv1, w1, w2, v2, v3, n1, n2, hm, hvn, rd_old _ hid, hx, k1, k2];exact Red.rfl);exact Red.rfl;(focus (first|(simp;done)|omega|(simp;omega))))
               |((with_reducible first|apply Z7|apply Z8|apply Z9);(simp (disch:=omega) [hlA, gv0, gv1, w1, w2, v2, v3, n1, n2, hm, hvn, rd_old _ hid, hx, k1, k2];exact Red.rfl))
               |((with_reducible first|apply Z1|apply Z2|apply Z3|apply Z4|apply Z5|apply Z6);(simp (disch:=omega) [hlA, gv0, gv1, w1, w2, v2, v3, n1, n2, hm, hvn, rd_old _ hid, hx, k1, k2];exact Red.rfl))
               |((with_reducible first|apply W1|apply W2|apply W3);(simp (disch:=omega) [hlA, gv0, gv1, w1, w2, v2, v3, n1, n2, hm, hvn, rd_old _ hid, hx, k1, k2];exact Red.rfl))
               |((with_reducible apply P6);rfl;(simp (disch:=omega) [hlA, gv0, gv1, w1, w2, v2, v3, n1, n2, hm, hvn, rd_old _ hid, hx, k1, k2];exact Red.rfl);exact Red.rfl;(focus (first|(simp [pr];done)|(simp [pr];omega))))
               |((with_reducible apply P7);rfl;(simp (disch:=omega) [hlA, gv0, gv1, w1, w2, v2, v3, n1, n2, hm, hvn, rd_old _ hid, hx, k1, k2];exact Red.rfl);exact Red.rfl;(focus (simp [repast, pr, AOp.sem];done))))
              exact q_again ⟨(k + 1, true), by dsimp only; omega, st⟩ (by dsimp only; omega) (.inr <| le_same (by simp [plA.sc, pK.sc]; omega) (by simp [Red]))
            · repeat (first
               |(with_reducible first|apply X1|apply X2|apply X3|apply X4|apply X5|apply X6|apply X7|apply X8|apply X9|apply Y1|apply Y2|apply Y3|apply Y4|apply Y5|apply Y6|apply Y7|apply Y8|apply Y9)
               |((with_reducible apply q_block_other);decide)
               |((with_reducible first|apply e_end|apply d_end);(simp;exact Red.rfl))
               |((first|((with_reducible apply O1);rfl)|((with_reducible apply O2);rfl)|((with_reducible apply P1);rfl)|((with_reducible apply P2);rfl)|((with_reducible apply P3);rfl)|((with_reducible apply P4);rfl)|((with_reducible apply P5);rfl));(simp (disch:=omega) [hlA, gv0, gv1, w1, w2, v2, v3, n1, n2, hm, hvn];exact Red.rfl);exact Red.rfl;(focus (first|(simp;done)|omega|(simp;omega))))
               |((with_reducible first|apply Z7|apply Z8|apply Z9);(simp (disch:=omega) [hlA, gv0, gv1, w1, w2, v2, v3, n1, n2, hm, hvn];exact Red.rfl))
               |((with_reducible first|apply Z1|apply Z2|apply Z3|apply Z4|apply Z5|apply Z6);(simp (disch:=omega) [hlA, gv0, gv1, w1, w2, v2, v3, n1, n2, hm, hvn];exact Red.rfl))
               |((with_reducible first|apply W1|apply W2|apply W3);(simp (disch:=omega) [hlA, gv0, gv1, w1, w2, v2, v3, n1, n2, hm, hvn];exact Red.rfl))
               |((with_reducible apply P6);rfl;(simp (disch:=omega) [hlA, gv0, gv1, w1, w2, v2, v3, n1, n2, hm, hvn];exact Red.rfl);exact Red.rfl;(focus (first|(simp [pr];done)|(simp [pr];omega))))
               |((with_reducible apply P7);rfl;(simp (disch:=omega) [hlA, gv0, gv1, w1, w2, v2, v3, n1, n2, hm, hvn];exact Red.rfl);exact Red.rfl;(focus (simp [repast, pr, AOp.sem];done))))
              exact q_again ⟨(k + 1, true), by dsimp only; omega, st⟩ (by dsimp only; omega) (.inr <| le_same (by simp [plA.sc, pK.sc]; omega) (by simp [Red]))
        | false =>
          by_cases hvi : v = isv
          · have st := step true (by simp [hvi])
            subst hvi
            by_cases hm : mHi l v < at_
            · by_cases hvn : v < l.length
              · have hx : rd H id (off + v * 9 + 2) 1 = some [.int .i64 (strAt l v).lHi] := rd_cell hs hvn (by decide)
                have hL := lLo_bd hv hvn
                have hmx := mHi_succ l v
                have hpl := ha3.2.resolve_left (by omega)
                have k1 : ¬ (mHi l v + (strAt l v).lHi ≤ at_) := by omega
                repeat (first
                 |(with_reducible first|apply X1|apply X2|apply X3|apply X4|apply X5|apply X6|apply X7|apply X8|apply X9|apply Y1|apply Y2|apply Y3|apply Y4|apply Y5|apply Y6|apply Y7|apply Y8|apply Y9)
                 |((with_reducible apply q_block_other);decide)
                 |((with_reducible first|apply e_end|apply d_end);(simp;exact Red.rfl))
                 |((first|((with_reducible apply O1);rfl)|((with_reducible apply O2);rfl)|((with_reducible apply P1);rfl)|((with_reducible apply P2);rfl)|((with_reducible apply P3);rfl)|((with_reducible apply P4);rfl)|((with_reducible apply P5);rfl));(simp (disch:=omega) [hlA, gv0, gv1, w1, w2, v2, v3, n1, n2, hm, hvn, rd_old _ hid, hx, k1];exact Red.rfl);exact Red.rfl;(focus (first|(simp;done)|omega|(simp;omega))))
                 |((with_reducible first|apply Z7|apply Z8|apply Z9);(simp (disch:=omega) [hlA, gv0, gv1, w1, w2, v2, v3, n1, n2, hm, hvn, rd_old _ hid, hx, k1];exact Red.rfl))
                 |((with_reducible first|apply Z1|apply Z2|apply Z3|apply Z4|apply Z5|apply Z6);(simp (disch:=omega) [hlA, gv0, gv1, w1, w2, v2, v3, n1, n2, hm, hvn, rd_old _ hid, hx, k1];exact Red.rfl))
                 |((with_reducible first|apply W1|apply W2|apply W3);(simp (disch:=omega) [hlA, gv0, gv1, w1, w2, v2, v3, n1, n2, hm, hvn, rd_old _ hid, hx, k1];exact Red.rfl))
                 |((with_reducible apply P6);rfl;(simp (disch:=omega) [hlA, gv0, gv1, w1, w2, v2, v3, n1, n2, hm, hvn, rd_old _ hid, hx, k1];exact Red.rfl);exact Red.rfl;(focus (first|(simp [pr];done)|(simp [pr];omega))))
                 |((with_reducible apply P7);rfl;(simp (disch:=omega) [hlA, gv0, gv1, w1, w2, v2, v3, n1, n2, hm, hvn, rd_old _ hid, hx, k1];exact Red.rfl);exact Red.rfl;(focus (simp [repast, pr, AOp.sem];done))))
                exact q_again ⟨(k + 1, true), by dsimp only; omega, st⟩ (by dsimp only; omega) (.inr <| le_same (by simp [plA.sc, pK.sc]; omega) (by simp [Red]))
              · repeat (first
                 |(with_reducible first|apply X1|apply X2|apply X3|apply X4|apply X5|apply X6|apply X7|apply X8|apply X9|apply Y1|apply Y2|apply Y3|apply Y4|apply Y5|apply Y6|apply Y7|apply Y8|apply Y9)
                 |((with_reducible apply q_block_other);decide)
                 |((with_reducible first|apply e_end|apply d_end);(simp;exact Red.rfl))
                 |((first|((with_reducible apply O1);rfl)|((with_reducible apply O2);rfl)|((with_reducible apply P1);rfl)|((with_reducible apply P2);rfl)|((with_reducible apply P3);rfl)|((with_reducible apply P4);rfl)|((with_reducible apply P5);rfl));(simp (disch:=omega) [hlA, gv0, gv1, w1, w2, v2, v3, n1, n2, hm, hvn];exact Red.rfl);exact Red.rfl;(focus (first|(simp;done)|omega|(simp;omega))))
                 |((with_reducible first|apply Z7|apply Z8|apply Z9);(simp (disch:=omega) [hlA, gv0, gv1, w1, w2, v2, v3, n1, n2, hm, hvn];exact Red.rfl))
                 |((with_reducible first|apply Z1|apply Z2|apply Z3|apply Z4|apply Z5|apply Z6);(simp (disch:=omega) [hlA, gv0, gv1, w1, w2, v2, v3, n1, n2, hm, hvn];exact Red.rfl))
                 |((with_reducible first|apply W1|apply W2|apply W3);(simp (disch:=omega) [hlA, gv0, gv1, w1, w2, v2, v3, n1, n2, hm, hvn];exact Red.rfl))
                 |((with_reducible apply P6);rfl;(simp (disch:=omega) [hlA, gv0, gv1, w1, w2, v2, v3, n1, n2, hm, hvn];exact Red.rfl);exact Red.rfl;(focus (first|(simp [pr];done)|(simp [pr];omega))))
                 |((with_reducible apply P7);rfl;(simp (disch:=omega) [hlA, gv0, gv1, w1, w2, v2, v3, n1, n2, hm, hvn];exact Red.rfl);exact Red.rfl;(focus (simp [repast, pr, AOp.sem];done))))
                exact q_again ⟨(k + 1, true), by dsimp only; omega, st⟩ (by dsimp only; omega) (.inr <| le_same (by simp [plA.sc, pK.sc]; omega) (by simp [Red]))
            · by_cases hvn : v < l.length
              · have hx : rd H id (off + v * 9 + 2) 1 = some [.int .i64 (strAt l v).lHi] := rd_cell hs hvn (by decide)
                have hL := lLo_bd hv hvn
                have hmx := mHi_succ l v
                have hpl := ha3.2.resolve_left (by omega)
                have k1 : ¬ (at_ + (strAt l v).lHi ≤ at_) := by omega
                have k2 : ¬ ((strAt l v).lHi ≤ 0) := by omega
                repeat (first
                 |(with_reducible first|apply X1|apply X2|apply X3|apply X4|apply X5|apply X6|apply X7|apply X8|apply X9|apply Y1|apply Y2|apply Y3|apply Y4|apply Y5|apply Y6|apply Y7|apply Y8|apply Y9)
                 |((with_reducible apply q_block_other);decide)
                 |((with_reducible first|apply e_end|apply d_end);(simp;exact Red.rfl))
                 |((first|((with_reducible apply O1);rfl)|((with_reducible apply O2);rfl)|((with_reducible apply P1);rfl)|((with_reducible apply P2);rfl)|((with_reducible apply P3);rfl)|((with_reducible apply P4);rfl)|((with_reducible apply P5);rfl));(simp (disch:=omega) [hlA, gv0, gv1, w1, w2, v2, v3, n1, n2, hm, hvn, rd_old _ hid, hx, k1, k2];exact Red.rfl);exact Red.rfl;(focus (first|(simp;done)|omega|(simp;omega))))
                 |((with_reducible first|apply Z7|apply Z8|apply Z9);(simp (disch:=omega) [hlA, gv0, gv1, w1, w2, v2, v3, n1, n2, hm, hvn, rd_old _ hid, hx, k1, k2];exact Red.rfl))
                 |((with_reducible first|apply Z1|apply Z2|apply Z3|apply Z4|apply Z5|apply Z6);(simp (disch:=omega) [hlA, gv0, gv1, w1, w2, v2, v3, n1, n2, hm, hvn, rd_old _ hid, hx, k1, k2];exact Red.rfl))
                 |((with_reducible first|apply W1|apply W2|apply W3);(simp (disch:=omega) [hlA, gv0, gv1, w1, w2, v2, v3, n1, n2, hm, hvn, rd_old _ hid, hx, k1, k2];exact Red.rfl))
                 |((with_reducible apply P6);rfl;(simp (disch:=omega) [hlA, gv0, gv1, w1, w2, v2, v3, n1, n2, hm, hvn, rd_old _ hid, hx, k1, k2];exact Red.rfl);exact Red.rfl;(focus (first|(simp [pr];done)|(simp [pr];omega))))
                 |((with_reducible apply P7);rfl;(simp (disch:=omega) [hlA, gv0, gv1, w1, w2, v2, v3, n1, n2, hm, hvn, rd_old _ hid, hx, k1, k2];exact Red.rfl);exact Red.rfl;(focus (simp [repast, pr, AOp.sem];done))))
                exact q_again ⟨(k + 1, true), by dsimp only; omega, st⟩ (by dsimp only; omega) (.inr <| le_same (by simp [plA.sc, pK.sc]; omega) (by simp [Red]))
              · repeat (first
                 |(with_reducible first|apply X1|apply X2|apply X3|apply X4|apply X5|apply X6|apply X7|apply X8|apply X9|apply Y1|apply Y2|apply Y3|apply Y4|apply Y5|apply Y6|apply Y7|apply Y8|apply Y9)
                 |((with_reducible apply q_block_other);decide)
                 |((with_reducible first|apply e_end|apply d_end);(simp;exact Red.rfl))
                 |((first|((with_reducible apply O1);rfl)|((with_reducible apply O2);rfl)|((with_reducible apply P1);rfl)|((with_reducible apply P2);rfl)|((with_reducible apply P3);rfl)|((with_reducible apply P4);rfl)|((with_reducible apply P5);rfl));(simp (disch:=omega) [hlA, gv0, gv1, w1, w2, v2, v3, n1, n2, hm, hvn];exact Red.rfl);exact Red.rfl;(focus (first|(simp;done)|omega|(simp;omega))))
                 |((with_reducible first|apply Z7|apply Z8|apply Z9);(simp (disch:=omega) [hlA, gv0, gv1, w1, w2, v2, v3, n1, n2, hm, hvn];exact Red.rfl))
                 |((with_reducible first|apply Z1|apply Z2|apply Z3|apply Z4|apply Z5|apply Z6);(simp (disch:=omega) [hlA, gv0, gv1, w1, w2, v2, v3, n1, n2, hm, hvn];exact Red.rfl))
                 |((with_reducible first|apply W1|apply W2|apply W3);(simp (disch:=omega) [hlA, gv0, gv1, w1, w2, v2, v3, n1, n2, hm, hvn];exact Red.rfl))
                 |((with_reducible apply P6);rfl;(simp (disch:=omega) [hlA, gv0, gv1, w1, w2, v2, v3, n1, n2, hm, hvn];exact Red.rfl);exact Red.rfl;(focus (first|(simp [pr];done)|(simp [pr];omega))))
                 |((with_reducible apply P7);rfl;(simp (disch:=omega) [hlA, gv0, gv1, w1, w2, v2, v3, n1, n2, hm, hvn];exact Red.rfl);exact Red.rfl;(focus (simp [repast, pr, AOp.sem];done))))
                exact q_again ⟨(k + 1, true), by dsimp only; omega, st⟩ (by dsimp only; omega) (.inr <| le_same (by simp [plA.sc, pK.sc]; omega) (by simp [Red]))
          · have st := step false (by simp [hvi])
            have hvi2 : ¬ (v : Int) = isv := by omega
            by_cases hm : mHi l v < at_
            · by_cases hvn : v < l.length
              · have hx : rd H id (off + v * 9 + 2) 1 = some [.int .i64 (strAt l v).lHi] := rd_cell hs hvn (by decide)
                have hL := lLo_bd hv hvn
                have hmx := mHi_succ l v
                have hpl := ha3.2.resolve_left (by omega)
                have k1 : ¬ (mHi l v + (strAt l v).lHi ≤ at_) := by omega
                repeat (first
                 |(with_reducible first|apply X1|apply X2|apply X3|apply X4|apply X5|apply X6|apply X7|apply X8|apply X9|apply Y1|apply Y2|apply Y3|apply Y4|apply Y5|apply Y6|apply Y7|apply Y8|apply Y9)
                 |((with_reducible apply q_block_other);decide)
                 |((with_reducible first|apply e_end|apply d_end);(simp;exact Red.rfl))
                 |((first|((with_reducible apply O1);rfl)|((with_reducible apply O2);rfl)|((with_reducible apply P1);rfl)|((with_reducible apply P2);rfl)|((with_reducible apply P3);rfl)|((with_reducible apply P4);rfl)|((with_reducible apply P5);rfl));(simp (disch:=omega) [hlA, gv0, gv1, w1, w2, v2, v3, n1, n2, hvi, hvi2, hm, hvn, rd_old _ hid, hx, k1];exact Red.rfl);exact Red.rfl;(focus (first|(simp;done)|omega|(simp;omega))))
                 |((with_reducible first|apply Z7|apply Z8|apply Z9);(simp (disch:=omega) [hlA, gv0, gv1, w1, w2, v2, v3, n1, n2, hvi, hvi2, hm, hvn, rd_old _ hid, hx, k1];exact Red.rfl))
                 |((with_reducible first|apply Z1|apply Z2|apply Z3|apply Z4|apply Z5|apply Z6);(simp (disch:=omega) [hlA, gv0, gv1, w1, w2, v2, v3, n1, n2, hvi, hvi2, hm, hvn, rd_old _ hid, hx, k1];exact Red.rfl))
                 |((with_reducible first|apply W1|apply W2|apply W3);(simp (disch:=omega) [hlA, gv0, gv1, w1, w2, v2, v3, n1, n2, hvi, hvi2, hm, hvn, rd_old _ hid, hx, k1];exact Red.rfl))
                 |((with_reducible apply P6);rfl;(simp (disch:=omega) [hlA, gv0, gv1, w1, w2, v2, v3, n1, n2, hvi, hvi2, hm, hvn, rd_old _ hid, hx, k1];exact Red.rfl);exact Red.rfl;(focus (first|(simp [pr];done)|(simp [pr];omega))))
                 |((with_reducible apply P7);rfl;(simp (disch:=omega) [hlA, gv0, gv1, w1, w2, v2, v3, n1, n2, hvi, hvi2, hm, hvn, rd_old _ hid, hx, k1];exact Red.rfl);exact Red.rfl;(focus (simp [repast, pr, AOp.sem];done))))
                exact q_again ⟨(k + 1, false), by dsimp only; omega, st⟩ (by dsimp only; omega) (.inr <| le_same (by simp [plA.sc, pK.sc]; omega) (by simp [Red]))
              · repeat (first
                 |(with_reducible first|apply X1|apply X2|apply X3|apply X4|apply X5|apply X6|apply X7|apply X8|apply X9|apply Y1|apply Y2|apply Y3|apply Y4|apply Y5|apply Y6|apply Y7|apply Y8|apply Y9)
                 |((with_reducible apply q_block_other);decide)
                 |((with_reducible first|apply e_end|apply d_end);(simp;exact Red.rfl))
                 |((first|((with_reducible apply O1);rfl)|((with_reducible apply O2);rfl)|((with_reducible apply P1);rfl)|((with_reducible apply P2);rfl)|((with_reducible apply P3);rfl)|((with_reducible apply P4);rfl)|((with_reducible apply P5);rfl));(simp (disch:=omega) [hlA, gv0, gv1, w1, w2, v2, v3, n1, n2, hvi, hvi2, hm, hvn];exact Red.rfl);exact Red.rfl;(focus (first|(simp;done)|omega|(simp;omega))))
                 |((with_reducible first|apply Z7|apply Z8|apply Z9);(simp (disch:=omega) [hlA, gv0, gv1, w1, w2, v2, v3, n1, n2, hvi, hvi2, hm, hvn];exact Red.rfl))
                 |((with_reducible first|apply Z1|apply Z2|apply Z3|apply Z4|apply Z5|apply Z6);(simp (disch:=omega) [hlA, gv0, gv1, w1, w2, v2, v3, n1, n2, hvi, hvi2, hm, hvn];exact Red.rfl))
                 |((with_reducible first|apply W1|apply W2|apply W3);(simp (disch:=omega) [hlA, gv0, gv1, w1, w2, v2, v3, n1, n2, hvi, hvi2, hm, hvn];exact Red.rfl))
                 |((with_reducible apply P6);rfl;(simp (disch:=omega) [hlA, gv0, gv1, w1, w2, v2, v3, n1, n2, hvi, hvi2, hm, hvn];exact Red.rfl);exact Red.rfl;(focus (first|(simp [pr];done)|(simp [pr];omega))))
                 |((with_reducible apply P7);rfl;(simp (disch:=omega) [hlA, gv0, gv1, w1, w2, v2, v3, n1, n2, hvi, hvi2, hm, hvn];exact Red.rfl);exact Red.rfl;(focus (simp [repast, pr, AOp.sem];done))))
                exact q_again ⟨(k + 1, false), by dsimp only; omega, st⟩ (by dsimp only; omega) (.inr <| le_same (by simp [plA.sc, pK.sc]; omega) (by simp [Red]))
            · by_cases hvn : v < l.length
              · have hx : rd H id (off + v * 9 + 2) 1 = some [.int .i64 (strAt l v).lHi] := rd_cell hs hvn (by decide)
                have hL := lLo_bd hv hvn
                have hmx := mHi_succ l v
                have hpl := ha3.2.resolve_left (by omega)
                have k1 : ¬ (at_ + (strAt l v).lHi ≤ at_) := by omega
                have k2 : ¬ ((strAt l v).lHi ≤ 0) := by omega
                repeat (first
                 |(with_reducible first|apply X1|apply X2|apply X3|apply X4|apply X5|apply X6|apply X7|apply X8|apply X9|apply Y1|apply Y2|apply Y3|apply Y4|apply Y5|apply Y6|apply Y7|apply Y8|apply Y9)
                 |((with_reducible apply q_block_other);decide)
                 |((with_reducible first|apply e_end|apply d_end);(simp;exact Red.rfl))
                 |((first|((with_reducible apply O1);rfl)|((with_reducible apply O2);rfl)|((with_reducible apply P1);rfl)|((with_reducible apply P2);rfl)|((with_reducible apply P3);rfl)|((with_reducible apply P4);rfl)|((with_reducible apply P5);rfl));(simp (disch:=omega) [hlA, gv0, gv1, w1, w2, v2, v3, n1, n2, hvi, hvi2, hm, hvn, rd_old _ hid, hx, k1, k2];exact Red.rfl);exact Red.rfl;(focus (first|(simp;done)|omega|(simp;omega))))
                 |((with_reducible first|apply Z7|apply Z8|apply Z9);(simp (disch:=omega) [hlA, gv0, gv1, w1, w2, v2, v3, n1, n2, hvi, hvi2, hm, hvn, rd_old _ hid, hx, k1, k2];exact Red.rfl))
                 |((with_reducible first|apply Z1|apply Z2|apply Z3|apply Z4|apply Z5|apply Z6);(simp (disch:=omega) [hlA, gv0, gv1, w1, w2, v2, v3, n1, n2, hvi, hvi2, hm, hvn, rd_old _ hid, hx, k1, k2];exact Red.rfl))
                 |((with_reducible first|apply W1|apply W2|apply W3);(simp (disch:=omega) [hlA, gv0, gv1, w1, w2, v2, v3, n1, n2, hvi, hvi2, hm, hvn, rd_old _ hid, hx, k1, k2];exact Red.rfl))
                 |((with_reducible apply P6);rfl;(simp (disch:=omega) [hlA, gv0, gv1, w1, w2, v2, v3, n1, n2, hvi, hvi2, hm, hvn, rd_old _ hid, hx, k1, k2];exact Red.rfl);exact Red.rfl;(focus (first|(simp [pr];done)|(simp [pr];omega))))
                 |((with_reducible apply P7);rfl;(simp (disch:=omega) [hlA, gv0, gv1, w1, w2, v2, v3, n1, n2, hvi, hvi2, hm, hvn, rd_old _ hid, hx, k1, k2];exact Red.rfl);exact Red.rfl;(focus (simp [repast, pr, AOp.sem];done))))
                exact q_again ⟨(k + 1, false), by dsimp only; omega, st⟩ (by dsimp only; omega) (.inr <| le_same (by simp [plA.sc, pK.sc]; omega) (by simp [Red]))
              · repeat (first
                 |(with_reducible first|apply X1|apply X2|apply X3|apply X4|apply X5|apply X6|apply X7|apply X8|apply X9|apply Y1|apply Y2|apply Y3|apply Y4|apply Y5|apply Y6|apply Y7|apply Y8|apply Y9)
                 |((with_reducible apply q_block_other);decide)
                 |((with_reducible first|apply e_end|apply d_end);(simp;exact Red.rfl))
                 |((first|((with_reducible apply O1);rfl)|((with_reducible apply O2);rfl)|((with_reducible apply P1);rfl)|((with_reducible apply P2);rfl)|((with_reducible apply P3);rfl)|((with_reducible apply P4);rfl)|((with_reducible apply P5);rfl));(simp (disch:=omega) [hlA, gv0, gv1, w1, w2, v2, v3, n1, n2, hvi, hvi2, hm, hvn];exact Red.rfl);exact Red.rfl;(focus (first|(simp;done)|omega|(simp;omega))))
                 |((with_reducible first|apply Z7|apply Z8|apply Z9);(simp (disch:=omega) [hlA, gv0, gv1, w1, w2, v2, v3, n1, n2, hvi, hvi2, hm, hvn];exact Red.rfl))
                 |((with_reducible first|apply Z1|apply Z2|apply Z3|apply Z4|apply Z5|apply Z6);(simp (disch:=omega) [hlA, gv0, gv1, w1, w2, v2, v3, n1, n2, hvi, hvi2, hm, hvn];exact Red.rfl))
                 |((with_reducible first|apply W1|apply W2|apply W3);(simp (disch:=omega) [hlA, gv0, gv1, w1, w2, v2, v3, n1, n2, hvi, hvi2, hm, hvn];exact Red.rfl))
                 |((with_reducible apply P6);rfl;(simp (disch:=omega) [hlA, gv0, gv1, w1, w2, v2, v3, n1, n2, hvi, hvi2, hm, hvn];exact Red.rfl);exact Red.rfl;(focus (first|(simp [pr];done)|(simp [pr];omega))))
                 |((with_reducible apply P7);rfl;(simp (disch:=omega) [hlA, gv0, gv1, w1, w2, v2, v3, n1, n2, hvi, hvi2, hm, hvn];exact Red.rfl);exact Red.rfl;(focus (simp [repast, pr, AOp.sem];done))))
                exact q_again ⟨(k + 1, false), by dsimp only; omega, st⟩ (by dsimp only; omega) (.inr <| le_same (by simp [plA.sc, pK.sc]; omega) (by simp [Red]))
    · have hlt2 : ¬ (k : Int) < ks.length := by omega
      have hbt : b = true := hb2.2 (by
        obtain ⟨j, hj, e⟩ := List.getElem_of_mem hmem
        exact ⟨j, by omega, by rw [List.getElem?_eq_getElem hj, e]⟩)
      subst hbt
      repeat (first
       |(with_reducible first|apply X1|apply X2|apply X3|apply X4|apply X5|apply X6|apply X7|apply X8|apply X9|apply Y1|apply Y2|apply Y3|apply Y4|apply Y5|apply Y6|apply Y7|apply Y8|apply Y9)
       |((with_reducible apply q_block_other);decide)
       |((with_reducible first|apply e_end|apply d_end);(simp;exact Red.rfl))
       |((first|((with_reducible apply O1);rfl)|((with_reducible apply O2);rfl)|((with_reducible apply P1);rfl)|((with_reducible apply P2);rfl)|((with_reducible apply P3);rfl)|((with_reducible apply P4);rfl)|((with_reducible apply P5);rfl));(simp (disch:=omega) [hlt, hlt2];exact Red.rfl);exact Red.rfl;(focus (first|(simp;done)|omega|(simp;omega))))
       |((with_reducible first|apply Z7|apply Z8|apply Z9);(simp (disch:=omega) [hlt, hlt2];exact Red.rfl))
       |((with_reducible first|apply Z1|apply Z2|apply Z3|apply Z4|apply Z5|apply Z6);(simp (disch:=omega) [hlt, hlt2];exact Red.rfl))
       |((with_reducible first|apply W1|apply W2|apply W3);(simp (disch:=omega) [hlt, hlt2];exact Red.rfl))
       |((with_reducible apply P6);rfl;(simp (disch:=omega) [hlt, hlt2];exact Red.rfl);exact Red.rfl;(focus (first|(simp [pr];done)|(simp [pr];omega))))
       |((with_reducible apply P7);rfl;(simp (disch:=omega) [hlt, hlt2];exact Red.rfl);exact Red.rfl;(focus (simp [repast, pr, AOp.sem];done))))
      exact q_drop (.inr rfl) (by simp; exact Red.rfl) (by simp) rfl
end Go.Proofs
