/- Measures of a truth. -/
import Derived.Test.YthhhmbkbfpcojaaGH
namespace Go.Proofs
open Go.Abs
attribute [local simp] AOp.den AOpd.ev lk cellsOf rd_new rd_new0 rd_zero rd_succ wr_new wr_new0 wr_zero wr_succ splice fillA binA scal sliceCells List.length_append argsT AV.sc scL AObj.sc resV getAll AR.get AOp.slots opdSlots opdsSlots partSlots eqAt at_new0 at_new set_new0 set_new wrap64
set_option linter.unusedSimpArgs false
set_option linter.unusedVariables false
theorem mod_lt {a : Int} {n : Nat} (h0 : 0 ≤ a) (hn : 0 < n) : ∃ x : Nat, a.tmod (n : Int) = x ∧ x < n := by
  have h1 := Int.emod_nonneg a (show (n : Int) ≠ 0 by omega)
  have h2 := Int.emod_lt_of_pos a (show 0 < (n : Int) by omega)
  have h3 : a.tmod (n : Int) = a % (n : Int) := Int.tmod_eq_emod_of_nonneg h0
  exact ⟨(a % (n : Int)).toNat, by rw [h3]; omega, by omega⟩
theorem plain_ms (ms : List Ms) : Plain (ms.flatMap Ms.av) := by
  induction ms with
  | nil => exact Plain.nil
  | cons m r ih => rw [List.flatMap_cons]; exact Plain.app ⟨rfl, fun _ => rfl, fun _ => rfl⟩ ih
theorem ms_len (ms : List Ms) : (ms.flatMap Ms.av).length = ms.length * 5 := by
  induction ms with
  | nil => rfl
  | cons m r ih => rw [List.flatMap_cons, List.length_append, ih, Ms.av_length, List.length_cons]; omega
theorem sumF_bd0 {f : Nat → Int} {a n : Nat} (h : ∀ j, j < n → 0 ≤ f (a + j) ∧ f (a + j) ≤ 30000) : 0 ≤ sumF f a n ∧ sumF f a n ≤ n * 30000 := by
  have h1 := sumF_bd (f := f) (a := a) (c := 30000) (n := n) h
  exact ⟨h1.1, by have := h1.2; omega⟩
/-- A measure of what is true. -/
def tells (fa fb : Nat → Int) (m : Ms) : Prop := (m.k = 1 ∧ m.lo ≤ sumF fa m.f.toNat (m.t.toNat - m.f.toNat) ∧ sumF fa m.f.toNat (m.t.toNat - m.f.toNat) ≤ m.hi) ∨ (m.k = 2 ∧ m.lo ≤ sumF fb m.f.toNat (m.t.toNat - m.f.toNat) ∧ sumF fb m.f.toNat (m.t.toNat - m.f.toNat) ≤ m.hi)
def slT (H : Heap) (i : Nat) : AV := if i = 0 then .nilslice else .slice H.length 0 i 5 false
def mmT (i : Nat) (ms : List Ms) : Heap := if i = 0 then [] else [.cells (ms.flatMap Ms.av) true]
theorem mk_ok {fa fb : Nat → Int} {n x z p q : Nat} {s K : Int} (h1 : x + 1 + z ≤ n) (h2 : 0 ≤ s) (h3 : s ≤ 360000) (h4 : p < 50) (h5 : q < 50) (hs : (K = 1 ∧ sumF fa x (z + 1) = s) ∨ (K = 2 ∧ sumF fb x (z + 1) = s)) :
    (⟨K, x, (x : Int) + 1 + z, if (p : Int) < s then s - p else 0, if s + q < 360000 then s + q else 360000⟩ : Ms).ok n ∧ tells fa fb ⟨K, x, (x : Int) + 1 + z, if (p : Int) < s then s - p else 0, if s + q < 360000 then s + q else 360000⟩ := by
  have e1 : ((x : Int) + 1 + z).toNat = x + 1 + z := by omega
  simp only [Ms.ok, tells, Int.toNat_natCast, e1, show x + 1 + z - x = z + 1 by omega]
  rcases hs with ⟨rfl, hs⟩ | ⟨rfl, hs⟩
  · refine ⟨⟨.inl rfl, by omega, by omega, by omega, ?_, ?_, ?_⟩, .inl ⟨rfl, ?_, ?_⟩⟩ <;> (try rw [hs]) <;> (repeat' split) <;> omega
  · refine ⟨⟨.inr rfl, by omega, by omega, by omega, ?_, ?_, ?_⟩, .inr ⟨rfl, ?_, ?_⟩⟩ <;> (try rw [hs]) <;> (repeat' split) <;> omega

set_option maxHeartbeats 4000000 in
theorem c_tell (H : Heap) (fa fb : Nat → Int) (n aid aoff bid boff : Nat) (aex bex : Bool) (us : List Int) (uid uoff : Nat) (uex : Bool) (many : Nat) (ha : rd H aid aoff n = some (avL fa n)) (hb : rd H bid boff n = some (avL fb n)) (hF : ∀ j, j < n → 0 ≤ fa j ∧ fa j ≤ 30000) (hG : ∀ j, j < n → 0 ≤ fb j ∧ fb j ≤ 30000)
    (hn : 1 ≤ n ∧ n ≤ 12) (hc : rd H uid uoff us.length = some (us.map (.int .u32))) (hu : ∀ u ∈ us, 0 ≤ u ∧ u ≤ 4294967295) (hnu : (us.length : Int) ≤ 9223372036854775807) (hm : many ≤ 12) :
    ACalls Try.prog F.law01_tell [.slice aid aoff n 1 aex, .slice bid boff n 1 bex, .slice uid uoff us.length 1 uex, .int .i64 many] H
      (fun v h' => ∃ ms : List Ms, ms.length = many ∧ (∀ j (h : j < ms.length), ms[j].ok n ∧ tells fa fb ms[j]) ∧ v = slT H many ∧ h' = H ++ mmT many ms) := by
  refine acalls_of ok_law01_tell rfl fun hcl => ?_
  unfold ac_law01_tell
  simp only [argsT, Nat.zero_add, Nat.reduceAdd]
  have hid := rd_lt ha
  have hbid := rd_lt hb
  have huid := rd_lt hc
  repeat (first
   |(with_reducible first|apply X1|apply X2|apply X3|apply X4|apply X5|apply X6|apply X7|apply X8|apply X9|apply Y1|apply Y2|apply Y3|apply Y4|apply Y5|apply Y6|apply Y7|apply Y8|apply Y9)
   |((with_reducible apply q_block_other);decide)
   |((with_reducible first|apply e_end|apply d_end);(simp;exact Red.rfl))
   |((first|((with_reducible apply O1);rfl)|((with_reducible apply O2);rfl)|((with_reducible apply P1);rfl)|((with_reducible apply P2);rfl)|((with_reducible apply P3);rfl)|((with_reducible apply P4);rfl)|((with_reducible apply P5);rfl));(simp (disch:=omega);exact Red.rfl);exact Red.rfl;(focus (first|(simp;done)|omega|(simp;omega))))
   |((with_reducible first|apply Z7|apply Z8|apply Z9);(simp (disch:=omega);exact Red.rfl))
   |((with_reducible first|apply Z1|apply Z2|apply Z3|apply Z4|apply Z5|apply Z6);(simp (disch:=omega);exact Red.rfl))
   |((with_reducible first|apply W1|apply W2|apply W3);(simp (disch:=omega);exact Red.rfl))
   |((with_reducible apply P6);rfl;(simp (disch:=omega);exact Red.rfl);exact Red.rfl;(focus (first|(simp [pr];done)|(simp [pr];omega))))
   |((with_reducible apply P7);rfl;(simp (disch:=omega);exact Red.rfl);exact Red.rfl;(focus (simp [repast, pr, AOp.sem];done))))
  refine e_loop (ι := { p : Nat × List Ms // p.2.length = p.1 ∧ p.1 ≤ many ∧ ∀ j (h : j < p.2.length), p.2[j].ok n ∧ tells fa fb p.2[j] })
    (fun p => [(0, .slice aid aoff n 1 aex), (1, .slice bid boff n 1 bex), (2, .slice uid uoff us.length 1 uex), (9, slT H p.1.1), (16, .int .i64 many), (17, .int .i64 p.1.1)])
    (fun p => H ++ mmT p.1.1 p.1.2) (fun p => many - p.1.1) ⟨(0, []), rfl, by omega, by intro j h; simp at h⟩ ?_ ?_
  · simp only [slT, mmT, if_true, List.append_nil]
    exact .inr <| le_id (by simp [hid, hbid, huid])
  · rintro ⟨⟨i, ms⟩, hlen, hi, hms⟩
    dsimp only at hlen hi hms ⊢
    by_cases hlt : i < many
    · have hlt2 : (i : Int) < many := by omega
      cases i with
      | zero =>
        obtain rfl : ms = [] := List.length_eq_zero_iff.1 hlen
        simp only [slT, mmT, if_true, List.append_nil]
        have hlt2 : 0 < many := by omega
        obtain ⟨x, hx, hx2⟩ := mod_lt (n := n) (chooseF_ge hu (0)).1 (by omega)
        obtain ⟨z, hz, hz2⟩ := mod_lt (n := n - x) (chooseF_ge hu (1)).1 (by omega)
        obtain ⟨p, hp, hp2⟩ := mod_lt (n := 50) (chooseF_ge hu (3)).1 (by omega)
        obtain ⟨q, hq, hq2⟩ := mod_lt (n := 50) (chooseF_ge hu (4)).1 (by omega)
        have b1 := sumF_bd0 (f := fa) (a := x) (n := x + 1 + z - x) (fun j hj => hF (x + j) (by omega))
        have b2 := sumF_bd0 (f := fb) (a := x) (n := x + 1 + z - x) (fun j hj => hG (x + j) (by omega))
        have hzc : ((n : Int) - x) = ((n - x : Nat) : Int) := by omega
        have h50 : ((50 : Nat) : Int) = 50 := rfl
        have hyc : (x : Int) + 1 + z = ((x + 1 + z : Nat) : Int) := by omega
        rw [← hzc] at hz
        rw [h50] at hp hq
        have hl1 : x + 1 + z - x = z + 1 := by omega
        rw [hl1] at b1 b2
        repeat (first
         |(with_reducible first|apply X1|apply X2|apply X3|apply X4|apply X5|apply X6|apply X7|apply X8|apply X9|apply Y1|apply Y2|apply Y3|apply Y4|apply Y5|apply Y6|apply Y7|apply Y8|apply Y9)
         |((with_reducible apply q_block_other);decide)
         |((with_reducible first|apply e_end|apply d_end);(simp;exact Red.rfl))
         |((first|((with_reducible apply O1);rfl)|((with_reducible apply O2);rfl)|((with_reducible apply P1);rfl)|((with_reducible apply P2);rfl)|((with_reducible apply P3);rfl)|((with_reducible apply P4);rfl)|((with_reducible apply P5);rfl));(simp (disch:=omega) [hlt2];exact Red.rfl);exact Red.rfl;(focus (first|(simp;done)|omega|(simp;omega))))
         |((with_reducible first|apply Z7|apply Z8|apply Z9);(simp (disch:=omega) [hlt2];exact Red.rfl))
         |((with_reducible first|apply Z1|apply Z2|apply Z3|apply Z4|apply Z5|apply Z6);(simp (disch:=omega) [hlt2];exact Red.rfl))
         |((with_reducible first|apply W1|apply W2|apply W3);(simp (disch:=omega) [hlt2];exact Red.rfl))
         |((with_reducible apply P6);rfl;(simp (disch:=omega) [hlt2];exact Red.rfl);exact Red.rfl;(focus (first|(simp [pr];done)|(simp [pr];omega))))
         |((with_reducible apply P7);rfl;(simp (disch:=omega) [hlt2];exact Red.rfl);exact Red.rfl;(focus (simp [repast, pr, AOp.sem];done))))
        (with_reducible apply e_call); (simp; exact Red.rfl); exact c_choose _ us uid uoff uex (0) (by first | exact hc | (rw [rd_old _ huid]; exact hc)) hu (by omega) (by omega) hnu
        rintro _ hqh ⟨rfl, hqe⟩
        rw [hqe]; clear hqe hqh
        repeat (first
         |(with_reducible first|apply X1|apply X2|apply X3|apply X4|apply X5|apply X6|apply X7|apply X8|apply X9|apply Y1|apply Y2|apply Y3|apply Y4|apply Y5|apply Y6|apply Y7|apply Y8|apply Y9)
         |((with_reducible apply q_block_other);decide)
         |((with_reducible first|apply e_end|apply d_end);(simp;exact Red.rfl))
         |((first|((with_reducible apply O1);rfl)|((with_reducible apply O2);rfl)|((with_reducible apply P1);rfl)|((with_reducible apply P2);rfl)|((with_reducible apply P3);rfl)|((with_reducible apply P4);rfl)|((with_reducible apply P5);rfl));(simp (disch:=omega) [hlt2, hx];exact Red.rfl);exact Red.rfl;(focus (first|(simp;done)|omega|(simp;omega))))
         |((with_reducible first|apply Z7|apply Z8|apply Z9);(simp (disch:=omega) [hlt2, hx];exact Red.rfl))
         |((with_reducible first|apply Z1|apply Z2|apply Z3|apply Z4|apply Z5|apply Z6);(simp (disch:=omega) [hlt2, hx];exact Red.rfl))
         |((with_reducible first|apply W1|apply W2|apply W3);(simp (disch:=omega) [hlt2, hx];exact Red.rfl))
         |((with_reducible apply P6);rfl;(simp (disch:=omega) [hlt2, hx];exact Red.rfl);exact Red.rfl;(focus (first|(simp [pr];done)|(simp [pr];omega))))
         |((with_reducible apply P7);rfl;(simp (disch:=omega) [hlt2, hx];exact Red.rfl);exact Red.rfl;(focus (simp [repast, pr, AOp.sem];done))))
        (with_reducible apply e_call); (simp; exact Red.rfl); exact c_choose _ us uid uoff uex (1) (by first | exact hc | (rw [rd_old _ huid]; exact hc)) hu (by omega) (by omega) hnu
        rintro _ hqh ⟨rfl, hqe⟩
        rw [hqe]; clear hqe hqh
        repeat (first
         |(with_reducible first|apply X1|apply X2|apply X3|apply X4|apply X5|apply X6|apply X7|apply X8|apply X9|apply Y1|apply Y2|apply Y3|apply Y4|apply Y5|apply Y6|apply Y7|apply Y8|apply Y9)
         |((with_reducible apply q_block_other);decide)
         |((with_reducible first|apply e_end|apply d_end);(simp;exact Red.rfl))
         |((first|((with_reducible apply O1);rfl)|((with_reducible apply O2);rfl)|((with_reducible apply P1);rfl)|((with_reducible apply P2);rfl)|((with_reducible apply P3);rfl)|((with_reducible apply P4);rfl)|((with_reducible apply P5);rfl));(simp (disch:=omega) [hz, show ((n : Int) - x ≠ 0) by omega];exact Red.rfl);exact Red.rfl;(focus (first|(simp;done)|omega|(simp;omega))))
         |((with_reducible first|apply Z7|apply Z8|apply Z9);(simp (disch:=omega) [hz, show ((n : Int) - x ≠ 0) by omega];exact Red.rfl))
         |((with_reducible first|apply Z1|apply Z2|apply Z3|apply Z4|apply Z5|apply Z6);(simp (disch:=omega) [hz, show ((n : Int) - x ≠ 0) by omega];exact Red.rfl))
         |((with_reducible first|apply W1|apply W2|apply W3);(simp (disch:=omega) [hz, show ((n : Int) - x ≠ 0) by omega];exact Red.rfl))
         |((with_reducible apply P6);rfl;(simp (disch:=omega) [hz, show ((n : Int) - x ≠ 0) by omega];exact Red.rfl);exact Red.rfl;(focus (first|(simp [pr];done)|(simp [pr];omega))))
         |((with_reducible apply P7);rfl;(simp (disch:=omega) [hz, show ((n : Int) - x ≠ 0) by omega];exact Red.rfl);exact Red.rfl;(focus (simp [repast, pr, AOp.sem];done))))
        rw [hyc]
        repeat (first
         |(with_reducible first|apply X1|apply X2|apply X3|apply X4|apply X5|apply X6|apply X7|apply X8|apply X9|apply Y1|apply Y2|apply Y3|apply Y4|apply Y5|apply Y6|apply Y7|apply Y8|apply Y9)
         |((with_reducible apply q_block_other);decide)
         |((with_reducible first|apply e_end|apply d_end);(simp;exact Red.rfl))
         |((first|((with_reducible apply O1);rfl)|((with_reducible apply O2);rfl)|((with_reducible apply P1);rfl)|((with_reducible apply P2);rfl)|((with_reducible apply P3);rfl)|((with_reducible apply P4);rfl)|((with_reducible apply P5);rfl));(simp (disch:=omega);exact Red.rfl);exact Red.rfl;(focus (first|(simp;done)|omega|(simp;omega))))
         |((with_reducible first|apply Z7|apply Z8|apply Z9);(simp (disch:=omega);exact Red.rfl))
         |((with_reducible first|apply Z1|apply Z2|apply Z3|apply Z4|apply Z5|apply Z6);(simp (disch:=omega);exact Red.rfl))
         |((with_reducible first|apply W1|apply W2|apply W3);(simp (disch:=omega);exact Red.rfl))
         |((with_reducible apply P6);rfl;(simp (disch:=omega);exact Red.rfl);exact Red.rfl;(focus (first|(simp [pr];done)|(simp [pr];omega))))
         |((with_reducible apply P7);rfl;(simp (disch:=omega);exact Red.rfl);exact Red.rfl;(focus (simp [repast, pr, AOp.sem];done))))
        (with_reducible apply e_call); (simp; exact Red.rfl); exact c_sum _ fa n aid aoff aex x (x + 1 + z) (by first | exact ha | (rw [rd_old _ hid]; exact ha)) hF (by omega) (by omega) (by omega)
        rintro _ hqh ⟨rfl, hqe⟩
        rw [hqe]; clear hqe hqh
        rw [hl1]
        repeat (first
         |(with_reducible first|apply X1|apply X2|apply X3|apply X4|apply X5|apply X6|apply X7|apply X8|apply X9|apply Y1|apply Y2|apply Y3|apply Y4|apply Y5|apply Y6|apply Y7|apply Y8|apply Y9)
         |((with_reducible apply q_block_other);decide)
         |((with_reducible first|apply e_end|apply d_end);(simp;exact Red.rfl))
         |((first|((with_reducible apply O1);rfl)|((with_reducible apply O2);rfl)|((with_reducible apply P1);rfl)|((with_reducible apply P2);rfl)|((with_reducible apply P3);rfl)|((with_reducible apply P4);rfl)|((with_reducible apply P5);rfl));(simp (disch:=omega);exact Red.rfl);exact Red.rfl;(focus (first|(simp;done)|omega|(simp;omega))))
         |((with_reducible first|apply Z7|apply Z8|apply Z9);(simp (disch:=omega);exact Red.rfl))
         |((with_reducible first|apply Z1|apply Z2|apply Z3|apply Z4|apply Z5|apply Z6);(simp (disch:=omega);exact Red.rfl))
         |((with_reducible first|apply W1|apply W2|apply W3);(simp (disch:=omega);exact Red.rfl))
         |((with_reducible apply P6);rfl;(simp (disch:=omega);exact Red.rfl);exact Red.rfl;(focus (first|(simp [pr];done)|(simp [pr];omega))))
         |((with_reducible apply P7);rfl;(simp (disch:=omega);exact Red.rfl);exact Red.rfl;(focus (simp [repast, pr, AOp.sem];done))))
        (with_reducible apply e_call); (simp; exact Red.rfl); exact c_choose _ us uid uoff uex (2) (by first | exact hc | (rw [rd_old _ huid]; exact hc)) hu (by omega) (by omega) hnu
        rintro _ hqh ⟨rfl, hqe⟩
        rw [hqe]; clear hqe hqh
        by_cases hk : (chooseF us (2)).tmod 2 = 1
        · repeat (first
           |(with_reducible first|apply X1|apply X2|apply X3|apply X4|apply X5|apply X6|apply X7|apply X8|apply X9|apply Y1|apply Y2|apply Y3|apply Y4|apply Y5|apply Y6|apply Y7|apply Y8|apply Y9)
           |((with_reducible apply q_block_other);decide)
           |((with_reducible first|apply e_end|apply d_end);(simp;exact Red.rfl))
           |((first|((with_reducible apply O1);rfl)|((with_reducible apply O2);rfl)|((with_reducible apply P1);rfl)|((with_reducible apply P2);rfl)|((with_reducible apply P3);rfl)|((with_reducible apply P4);rfl)|((with_reducible apply P5);rfl));(simp (disch:=omega) [hk];exact Red.rfl);exact Red.rfl;(focus (first|(simp;done)|omega|(simp;omega))))
           |((with_reducible first|apply Z7|apply Z8|apply Z9);(simp (disch:=omega) [hk];exact Red.rfl))
           |((with_reducible first|apply Z1|apply Z2|apply Z3|apply Z4|apply Z5|apply Z6);(simp (disch:=omega) [hk];exact Red.rfl))
           |((with_reducible first|apply W1|apply W2|apply W3);(simp (disch:=omega) [hk];exact Red.rfl))
           |((with_reducible apply P6);rfl;(simp (disch:=omega) [hk];exact Red.rfl);exact Red.rfl;(focus (first|(simp [pr];done)|(simp [pr];omega))))
           |((with_reducible apply P7);rfl;(simp (disch:=omega) [hk];exact Red.rfl);exact Red.rfl;(focus (simp [repast, pr, AOp.sem];done))))
          (with_reducible apply e_call); (simp; exact Red.rfl); exact c_sum _ fb n bid boff bex x (x + 1 + z) (by first | exact hb | (rw [rd_old _ hbid]; exact hb)) hG (by omega) (by omega) (by omega)
          rintro _ hqh ⟨rfl, hqe⟩
          rw [hqe]; clear hqe hqh
          rw [hl1]
          generalize hs2 : sumF fb x (z + 1) = s at *
          repeat (first
           |(with_reducible first|apply X1|apply X2|apply X3|apply X4|apply X5|apply X6|apply X7|apply X8|apply X9|apply Y1|apply Y2|apply Y3|apply Y4|apply Y5|apply Y6|apply Y7|apply Y8|apply Y9)
           |((with_reducible apply q_block_other);decide)
           |((with_reducible first|apply e_end|apply d_end);(simp;exact Red.rfl))
           |((first|((with_reducible apply O1);rfl)|((with_reducible apply O2);rfl)|((with_reducible apply P1);rfl)|((with_reducible apply P2);rfl)|((with_reducible apply P3);rfl)|((with_reducible apply P4);rfl)|((with_reducible apply P5);rfl));(simp (disch:=omega);exact Red.rfl);exact Red.rfl;(focus (first|(simp;done)|omega|(simp;omega))))
           |((with_reducible first|apply Z7|apply Z8|apply Z9);(simp (disch:=omega);exact Red.rfl))
           |((with_reducible first|apply Z1|apply Z2|apply Z3|apply Z4|apply Z5|apply Z6);(simp (disch:=omega);exact Red.rfl))
           |((with_reducible first|apply W1|apply W2|apply W3);(simp (disch:=omega);exact Red.rfl))
           |((with_reducible apply P6);rfl;(simp (disch:=omega);exact Red.rfl);exact Red.rfl;(focus (first|(simp [pr];done)|(simp [pr];omega))))
           |((with_reducible apply P7);rfl;(simp (disch:=omega);exact Red.rfl);exact Red.rfl;(focus (simp [repast, pr, AOp.sem];done))))
          (with_reducible apply e_call); (simp; exact Red.rfl); exact c_choose _ us uid uoff uex (3) (by first | exact hc | (rw [rd_old _ huid]; exact hc)) hu (by omega) (by omega) hnu
          rintro _ hqh ⟨rfl, hqe⟩
          rw [hqe]; clear hqe hqh
          repeat (first
           |(with_reducible first|apply X1|apply X2|apply X3|apply X4|apply X5|apply X6|apply X7|apply X8|apply X9|apply Y1|apply Y2|apply Y3|apply Y4|apply Y5|apply Y6|apply Y7|apply Y8|apply Y9)
           |((with_reducible apply q_block_other);decide)
           |((with_reducible first|apply e_end|apply d_end);(simp;exact Red.rfl))
           |((first|((with_reducible apply O1);rfl)|((with_reducible apply O2);rfl)|((with_reducible apply P1);rfl)|((with_reducible apply P2);rfl)|((with_reducible apply P3);rfl)|((with_reducible apply P4);rfl)|((with_reducible apply P5);rfl));(simp (disch:=omega) [hp];exact Red.rfl);exact Red.rfl;(focus (first|(simp;done)|omega|(simp;omega))))
           |((with_reducible first|apply Z7|apply Z8|apply Z9);(simp (disch:=omega) [hp];exact Red.rfl))
           |((with_reducible first|apply Z1|apply Z2|apply Z3|apply Z4|apply Z5|apply Z6);(simp (disch:=omega) [hp];exact Red.rfl))
           |((with_reducible first|apply W1|apply W2|apply W3);(simp (disch:=omega) [hp];exact Red.rfl))
           |((with_reducible apply P6);rfl;(simp (disch:=omega) [hp];exact Red.rfl);exact Red.rfl;(focus (first|(simp [pr];done)|(simp [pr];omega))))
           |((with_reducible apply P7);rfl;(simp (disch:=omega) [hp];exact Red.rfl);exact Red.rfl;(focus (simp [repast, pr, AOp.sem];done))))
          (with_reducible apply e_call); (simp; exact Red.rfl); exact c_choose _ us uid uoff uex (4) (by first | exact hc | (rw [rd_old _ huid]; exact hc)) hu (by omega) (by omega) hnu
          rintro _ hqh ⟨rfl, hqe⟩
          rw [hqe]; clear hqe hqh
          repeat (first
           |(with_reducible first|apply X1|apply X2|apply X3|apply X4|apply X5|apply X6|apply X7|apply X8|apply X9|apply Y1|apply Y2|apply Y3|apply Y4|apply Y5|apply Y6|apply Y7|apply Y8|apply Y9)
           |((with_reducible apply q_block_other);decide)
           |((with_reducible first|apply e_end|apply d_end);(simp;exact Red.rfl))
           |((first|((with_reducible apply O1);rfl)|((with_reducible apply O2);rfl)|((with_reducible apply P1);rfl)|((with_reducible apply P2);rfl)|((with_reducible apply P3);rfl)|((with_reducible apply P4);rfl)|((with_reducible apply P5);rfl));(simp (disch:=omega) [hq];exact Red.rfl);exact Red.rfl;(focus (first|(simp;done)|omega|(simp;omega))))
           |((with_reducible first|apply Z7|apply Z8|apply Z9);(simp (disch:=omega) [hq];exact Red.rfl))
           |((with_reducible first|apply Z1|apply Z2|apply Z3|apply Z4|apply Z5|apply Z6);(simp (disch:=omega) [hq];exact Red.rfl))
           |((with_reducible first|apply W1|apply W2|apply W3);(simp (disch:=omega) [hq];exact Red.rfl))
           |((with_reducible apply P6);rfl;(simp (disch:=omega) [hq];exact Red.rfl);exact Red.rfl;(focus (first|(simp [pr];done)|(simp [pr];omega))))
           |((with_reducible apply P7);rfl;(simp (disch:=omega) [hq];exact Red.rfl);exact Red.rfl;(focus (simp [repast, pr, AOp.sem];done))))
          (with_reducible apply e_call); (simp; exact Red.rfl); exact c_span _ _ _
          rintro _ hqh ⟨rfl, hqe⟩
          rw [hqe]; clear hqe hqh
          repeat (first
           |(with_reducible first|apply X1|apply X2|apply X3|apply X4|apply X5|apply X6|apply X7|apply X8|apply X9|apply Y1|apply Y2|apply Y3|apply Y4|apply Y5|apply Y6|apply Y7|apply Y8|apply Y9)
           |((with_reducible apply q_block_other);decide)
           |((with_reducible first|apply e_end|apply d_end);(simp;exact Red.rfl))
           |((first|((with_reducible apply O1);rfl)|((with_reducible apply O2);rfl)|((with_reducible apply P1);rfl)|((with_reducible apply P2);rfl)|((with_reducible apply P3);rfl)|((with_reducible apply P4);rfl)|((with_reducible apply P5);rfl));(simp (disch:=omega);exact Red.rfl);exact Red.rfl;(focus (first|(simp;done)|omega|(simp;omega))))
           |((with_reducible first|apply Z7|apply Z8|apply Z9);(simp (disch:=omega);exact Red.rfl))
           |((with_reducible first|apply Z1|apply Z2|apply Z3|apply Z4|apply Z5|apply Z6);(simp (disch:=omega);exact Red.rfl))
           |((with_reducible first|apply W1|apply W2|apply W3);(simp (disch:=omega);exact Red.rfl))
           |((with_reducible apply P6);rfl;(simp (disch:=omega);exact Red.rfl);exact Red.rfl;(focus (first|(simp [pr];done)|(simp [pr];omega))))
           |((with_reducible apply P7);rfl;(simp (disch:=omega);exact Red.rfl);exact Red.rfl;(focus (simp [repast, pr, AOp.sem];done))))
          refine q_again ⟨(1, [⟨2, x, (x : Int) + 1 + z, if (p : Int) < s then s - p else 0, if s + q < 360000 then s + q else 360000⟩]), rfl, by omega, ?_⟩ (by dsimp only; omega) (.inr ?_)
          · intro j hj
            obtain rfl : j = 0 := by simp at hj; exact hj
            exact mk_ok (by omega) (by omega) (by omega) (by omega) (by omega) (.inr ⟨rfl, hs2⟩)
          · simp only [slT, mmT, Nat.succ_ne_zero, if_false, if_neg (show ¬ (1 = 0) by decide)]
            exact le_plain [2] _ (by simp) (by rfl) (by simp only [List.forall_mem_cons]; exact ⟨(plain_ms _).o _, fun x hx => by cases hx⟩) (by simp [sh, AV.ren, hid, hbid, huid]; omega)
        · repeat (first
           |(with_reducible first|apply X1|apply X2|apply X3|apply X4|apply X5|apply X6|apply X7|apply X8|apply X9|apply Y1|apply Y2|apply Y3|apply Y4|apply Y5|apply Y6|apply Y7|apply Y8|apply Y9)
           |((with_reducible apply q_block_other);decide)
           |((with_reducible first|apply e_end|apply d_end);(simp;exact Red.rfl))
           |((first|((with_reducible apply O1);rfl)|((with_reducible apply O2);rfl)|((with_reducible apply P1);rfl)|((with_reducible apply P2);rfl)|((with_reducible apply P3);rfl)|((with_reducible apply P4);rfl)|((with_reducible apply P5);rfl));(simp (disch:=omega) [hk];exact Red.rfl);exact Red.rfl;(focus (first|(simp;done)|omega|(simp;omega))))
           |((with_reducible first|apply Z7|apply Z8|apply Z9);(simp (disch:=omega) [hk];exact Red.rfl))
           |((with_reducible first|apply Z1|apply Z2|apply Z3|apply Z4|apply Z5|apply Z6);(simp (disch:=omega) [hk];exact Red.rfl))
           |((with_reducible first|apply W1|apply W2|apply W3);(simp (disch:=omega) [hk];exact Red.rfl))
           |((with_reducible apply P6);rfl;(simp (disch:=omega) [hk];exact Red.rfl);exact Red.rfl;(focus (first|(simp [pr];done)|(simp [pr];omega))))
           |((with_reducible apply P7);rfl;(simp (disch:=omega) [hk];exact Red.rfl);exact Red.rfl;(focus (simp [repast, pr, AOp.sem];done))))
          generalize hs1 : sumF fa x (z + 1) = s at *
          repeat (first
           |(with_reducible first|apply X1|apply X2|apply X3|apply X4|apply X5|apply X6|apply X7|apply X8|apply X9|apply Y1|apply Y2|apply Y3|apply Y4|apply Y5|apply Y6|apply Y7|apply Y8|apply Y9)
           |((with_reducible apply q_block_other);decide)
           |((with_reducible first|apply e_end|apply d_end);(simp;exact Red.rfl))
           |((first|((with_reducible apply O1);rfl)|((with_reducible apply O2);rfl)|((with_reducible apply P1);rfl)|((with_reducible apply P2);rfl)|((with_reducible apply P3);rfl)|((with_reducible apply P4);rfl)|((with_reducible apply P5);rfl));(simp (disch:=omega);exact Red.rfl);exact Red.rfl;(focus (first|(simp;done)|omega|(simp;omega))))
           |((with_reducible first|apply Z7|apply Z8|apply Z9);(simp (disch:=omega);exact Red.rfl))
           |((with_reducible first|apply Z1|apply Z2|apply Z3|apply Z4|apply Z5|apply Z6);(simp (disch:=omega);exact Red.rfl))
           |((with_reducible first|apply W1|apply W2|apply W3);(simp (disch:=omega);exact Red.rfl))
           |((with_reducible apply P6);rfl;(simp (disch:=omega);exact Red.rfl);exact Red.rfl;(focus (first|(simp [pr];done)|(simp [pr];omega))))
           |((with_reducible apply P7);rfl;(simp (disch:=omega);exact Red.rfl);exact Red.rfl;(focus (simp [repast, pr, AOp.sem];done))))
          (with_reducible apply e_call); (simp; exact Red.rfl); exact c_choose _ us uid uoff uex (3) (by first | exact hc | (rw [rd_old _ huid]; exact hc)) hu (by omega) (by omega) hnu
          rintro _ hqh ⟨rfl, hqe⟩
          rw [hqe]; clear hqe hqh
          repeat (first
           |(with_reducible first|apply X1|apply X2|apply X3|apply X4|apply X5|apply X6|apply X7|apply X8|apply X9|apply Y1|apply Y2|apply Y3|apply Y4|apply Y5|apply Y6|apply Y7|apply Y8|apply Y9)
           |((with_reducible apply q_block_other);decide)
           |((with_reducible first|apply e_end|apply d_end);(simp;exact Red.rfl))
           |((first|((with_reducible apply O1);rfl)|((with_reducible apply O2);rfl)|((with_reducible apply P1);rfl)|((with_reducible apply P2);rfl)|((with_reducible apply P3);rfl)|((with_reducible apply P4);rfl)|((with_reducible apply P5);rfl));(simp (disch:=omega) [hp];exact Red.rfl);exact Red.rfl;(focus (first|(simp;done)|omega|(simp;omega))))
           |((with_reducible first|apply Z7|apply Z8|apply Z9);(simp (disch:=omega) [hp];exact Red.rfl))
           |((with_reducible first|apply Z1|apply Z2|apply Z3|apply Z4|apply Z5|apply Z6);(simp (disch:=omega) [hp];exact Red.rfl))
           |((with_reducible first|apply W1|apply W2|apply W3);(simp (disch:=omega) [hp];exact Red.rfl))
           |((with_reducible apply P6);rfl;(simp (disch:=omega) [hp];exact Red.rfl);exact Red.rfl;(focus (first|(simp [pr];done)|(simp [pr];omega))))
           |((with_reducible apply P7);rfl;(simp (disch:=omega) [hp];exact Red.rfl);exact Red.rfl;(focus (simp [repast, pr, AOp.sem];done))))
          (with_reducible apply e_call); (simp; exact Red.rfl); exact c_choose _ us uid uoff uex (4) (by first | exact hc | (rw [rd_old _ huid]; exact hc)) hu (by omega) (by omega) hnu
          rintro _ hqh ⟨rfl, hqe⟩
          rw [hqe]; clear hqe hqh
          repeat (first
           |(with_reducible first|apply X1|apply X2|apply X3|apply X4|apply X5|apply X6|apply X7|apply X8|apply X9|apply Y1|apply Y2|apply Y3|apply Y4|apply Y5|apply Y6|apply Y7|apply Y8|apply Y9)
           |((with_reducible apply q_block_other);decide)
           |((with_reducible first|apply e_end|apply d_end);(simp;exact Red.rfl))
           |((first|((with_reducible apply O1);rfl)|((with_reducible apply O2);rfl)|((with_reducible apply P1);rfl)|((with_reducible apply P2);rfl)|((with_reducible apply P3);rfl)|((with_reducible apply P4);rfl)|((with_reducible apply P5);rfl));(simp (disch:=omega) [hq];exact Red.rfl);exact Red.rfl;(focus (first|(simp;done)|omega|(simp;omega))))
           |((with_reducible first|apply Z7|apply Z8|apply Z9);(simp (disch:=omega) [hq];exact Red.rfl))
           |((with_reducible first|apply Z1|apply Z2|apply Z3|apply Z4|apply Z5|apply Z6);(simp (disch:=omega) [hq];exact Red.rfl))
           |((with_reducible first|apply W1|apply W2|apply W3);(simp (disch:=omega) [hq];exact Red.rfl))
           |((with_reducible apply P6);rfl;(simp (disch:=omega) [hq];exact Red.rfl);exact Red.rfl;(focus (first|(simp [pr];done)|(simp [pr];omega))))
           |((with_reducible apply P7);rfl;(simp (disch:=omega) [hq];exact Red.rfl);exact Red.rfl;(focus (simp [repast, pr, AOp.sem];done))))
          (with_reducible apply e_call); (simp; exact Red.rfl); exact c_span _ _ _
          rintro _ hqh ⟨rfl, hqe⟩
          rw [hqe]; clear hqe hqh
          repeat (first
           |(with_reducible first|apply X1|apply X2|apply X3|apply X4|apply X5|apply X6|apply X7|apply X8|apply X9|apply Y1|apply Y2|apply Y3|apply Y4|apply Y5|apply Y6|apply Y7|apply Y8|apply Y9)
           |((with_reducible apply q_block_other);decide)
           |((with_reducible first|apply e_end|apply d_end);(simp;exact Red.rfl))
           |((first|((with_reducible apply O1);rfl)|((with_reducible apply O2);rfl)|((with_reducible apply P1);rfl)|((with_reducible apply P2);rfl)|((with_reducible apply P3);rfl)|((with_reducible apply P4);rfl)|((with_reducible apply P5);rfl));(simp (disch:=omega);exact Red.rfl);exact Red.rfl;(focus (first|(simp;done)|omega|(simp;omega))))
           |((with_reducible first|apply Z7|apply Z8|apply Z9);(simp (disch:=omega);exact Red.rfl))
           |((with_reducible first|apply Z1|apply Z2|apply Z3|apply Z4|apply Z5|apply Z6);(simp (disch:=omega);exact Red.rfl))
           |((with_reducible first|apply W1|apply W2|apply W3);(simp (disch:=omega);exact Red.rfl))
           |((with_reducible apply P6);rfl;(simp (disch:=omega);exact Red.rfl);exact Red.rfl;(focus (first|(simp [pr];done)|(simp [pr];omega))))
           |((with_reducible apply P7);rfl;(simp (disch:=omega);exact Red.rfl);exact Red.rfl;(focus (simp [repast, pr, AOp.sem];done))))
          refine q_again ⟨(1, [⟨1, x, (x : Int) + 1 + z, if (p : Int) < s then s - p else 0, if s + q < 360000 then s + q else 360000⟩]), rfl, by omega, ?_⟩ (by dsimp only; omega) (.inr ?_)
          · intro j hj
            obtain rfl : j = 0 := by simp at hj; exact hj
            exact mk_ok (by omega) (by omega) (by omega) (by omega) (by omega) (.inl ⟨rfl, hs1⟩)
          · simp only [slT, mmT, Nat.succ_ne_zero, if_false, if_neg (show ¬ (1 = 0) by decide)]
            exact le_plain [2] _ (by simp) (by rfl) (by simp only [List.forall_mem_cons]; exact ⟨(plain_ms _).o _, fun x hx => by cases hx⟩) (by simp [sh, AV.ren, hid, hbid, huid]; omega)
      | succ i =>
        have hlt2 : (i : Int) + 1 < many := by omega
        have hpm := plain_ms ms
        have plen : (ms.flatMap Ms.av).length = (i + 1) * 5 := by rw [ms_len, hlen]
        simp only [slT, mmT, Nat.succ_ne_zero, if_false]
        obtain ⟨x, hx, hx2⟩ := mod_lt (n := n) (chooseF_ge hu (7 * ((i : Int) + 1))).1 (by omega)
        obtain ⟨z, hz, hz2⟩ := mod_lt (n := n - x) (chooseF_ge hu (7 * ((i : Int) + 1) + 1)).1 (by omega)
        obtain ⟨p, hp, hp2⟩ := mod_lt (n := 50) (chooseF_ge hu (7 * ((i : Int) + 1) + 3)).1 (by omega)
        obtain ⟨q, hq, hq2⟩ := mod_lt (n := 50) (chooseF_ge hu (7 * ((i : Int) + 1) + 4)).1 (by omega)
        have b1 := sumF_bd0 (f := fa) (a := x) (n := x + 1 + z - x) (fun j hj => hF (x + j) (by omega))
        have b2 := sumF_bd0 (f := fb) (a := x) (n := x + 1 + z - x) (fun j hj => hG (x + j) (by omega))
        have hzc : ((n : Int) - x) = ((n - x : Nat) : Int) := by omega
        have h50 : ((50 : Nat) : Int) = 50 := rfl
        have hyc : (x : Int) + 1 + z = ((x + 1 + z : Nat) : Int) := by omega
        rw [← hzc] at hz
        rw [h50] at hp hq
        have hl1 : x + 1 + z - x = z + 1 := by omega
        rw [hl1] at b1 b2
        repeat (first
         |(with_reducible first|apply X1|apply X2|apply X3|apply X4|apply X5|apply X6|apply X7|apply X8|apply X9|apply Y1|apply Y2|apply Y3|apply Y4|apply Y5|apply Y6|apply Y7|apply Y8|apply Y9)
         |((with_reducible apply q_block_other);decide)
         |((with_reducible first|apply e_end|apply d_end);(simp;exact Red.rfl))
         |((first|((with_reducible apply O1);rfl)|((with_reducible apply O2);rfl)|((with_reducible apply P1);rfl)|((with_reducible apply P2);rfl)|((with_reducible apply P3);rfl)|((with_reducible apply P4);rfl)|((with_reducible apply P5);rfl));(simp (disch:=omega) [hlt2];exact Red.rfl);exact Red.rfl;(focus (first|(simp;done)|omega|(simp;omega))))
         |((with_reducible first|apply Z7|apply Z8|apply Z9);(simp (disch:=omega) [hlt2];exact Red.rfl))
         |((with_reducible first|apply Z1|apply Z2|apply Z3|apply Z4|apply Z5|apply Z6);(simp (disch:=omega) [hlt2];exact Red.rfl))
         |((with_reducible first|apply W1|apply W2|apply W3);(simp (disch:=omega) [hlt2];exact Red.rfl))
         |((with_reducible apply P6);rfl;(simp (disch:=omega) [hlt2];exact Red.rfl);exact Red.rfl;(focus (first|(simp [pr];done)|(simp [pr];omega))))
         |((with_reducible apply P7);rfl;(simp (disch:=omega) [hlt2];exact Red.rfl);exact Red.rfl;(focus (simp [repast, pr, AOp.sem];done))))
        (with_reducible apply e_call); (simp; exact Red.rfl); exact c_choose _ us uid uoff uex (7 * ((i : Int) + 1)) (by first | exact hc | (rw [rd_old _ huid]; exact hc)) hu (by omega) (by omega) hnu
        rintro _ hqh ⟨rfl, hqe⟩
        rw [hqe]; clear hqe hqh
        repeat (first
         |(with_reducible first|apply X1|apply X2|apply X3|apply X4|apply X5|apply X6|apply X7|apply X8|apply X9|apply Y1|apply Y2|apply Y3|apply Y4|apply Y5|apply Y6|apply Y7|apply Y8|apply Y9)
         |((with_reducible apply q_block_other);decide)
         |((with_reducible first|apply e_end|apply d_end);(simp;exact Red.rfl))
         |((first|((with_reducible apply O1);rfl)|((with_reducible apply O2);rfl)|((with_reducible apply P1);rfl)|((with_reducible apply P2);rfl)|((with_reducible apply P3);rfl)|((with_reducible apply P4);rfl)|((with_reducible apply P5);rfl));(simp (disch:=omega) [hlt2, hx];exact Red.rfl);exact Red.rfl;(focus (first|(simp;done)|omega|(simp;omega))))
         |((with_reducible first|apply Z7|apply Z8|apply Z9);(simp (disch:=omega) [hlt2, hx];exact Red.rfl))
         |((with_reducible first|apply Z1|apply Z2|apply Z3|apply Z4|apply Z5|apply Z6);(simp (disch:=omega) [hlt2, hx];exact Red.rfl))
         |((with_reducible first|apply W1|apply W2|apply W3);(simp (disch:=omega) [hlt2, hx];exact Red.rfl))
         |((with_reducible apply P6);rfl;(simp (disch:=omega) [hlt2, hx];exact Red.rfl);exact Red.rfl;(focus (first|(simp [pr];done)|(simp [pr];omega))))
         |((with_reducible apply P7);rfl;(simp (disch:=omega) [hlt2, hx];exact Red.rfl);exact Red.rfl;(focus (simp [repast, pr, AOp.sem];done))))
        (with_reducible apply e_call); (simp; exact Red.rfl); exact c_choose _ us uid uoff uex (7 * ((i : Int) + 1) + 1) (by first | exact hc | (rw [rd_old _ huid]; exact hc)) hu (by omega) (by omega) hnu
        rintro _ hqh ⟨rfl, hqe⟩
        rw [hqe]; clear hqe hqh
        repeat (first
         |(with_reducible first|apply X1|apply X2|apply X3|apply X4|apply X5|apply X6|apply X7|apply X8|apply X9|apply Y1|apply Y2|apply Y3|apply Y4|apply Y5|apply Y6|apply Y7|apply Y8|apply Y9)
         |((with_reducible apply q_block_other);decide)
         |((with_reducible first|apply e_end|apply d_end);(simp;exact Red.rfl))
         |((first|((with_reducible apply O1);rfl)|((with_reducible apply O2);rfl)|((with_reducible apply P1);rfl)|((with_reducible apply P2);rfl)|((with_reducible apply P3);rfl)|((with_reducible apply P4);rfl)|((with_reducible apply P5);rfl));(simp (disch:=omega) [hz, show ((n : Int) - x ≠ 0) by omega];exact Red.rfl);exact Red.rfl;(focus (first|(simp;done)|omega|(simp;omega))))
         |((with_reducible first|apply Z7|apply Z8|apply Z9);(simp (disch:=omega) [hz, show ((n : Int) - x ≠ 0) by omega];exact Red.rfl))
         |((with_reducible first|apply Z1|apply Z2|apply Z3|apply Z4|apply Z5|apply Z6);(simp (disch:=omega) [hz, show ((n : Int) - x ≠ 0) by omega];exact Red.rfl))
         |((with_reducible first|apply W1|apply W2|apply W3);(simp (disch:=omega) [hz, show ((n : Int) - x ≠ 0) by omega];exact Red.rfl))
         |((with_reducible apply P6);rfl;(simp (disch:=omega) [hz, show ((n : Int) - x ≠ 0) by omega];exact Red.rfl);exact Red.rfl;(focus (first|(simp [pr];done)|(simp [pr];omega))))
         |((with_reducible apply P7);rfl;(simp (disch:=omega) [hz, show ((n : Int) - x ≠ 0) by omega];exact Red.rfl);exact Red.rfl;(focus (simp [repast, pr, AOp.sem];done))))
        rw [hyc]
        repeat (first
         |(with_reducible first|apply X1|apply X2|apply X3|apply X4|apply X5|apply X6|apply X7|apply X8|apply X9|apply Y1|apply Y2|apply Y3|apply Y4|apply Y5|apply Y6|apply Y7|apply Y8|apply Y9)
         |((with_reducible apply q_block_other);decide)
         |((with_reducible first|apply e_end|apply d_end);(simp;exact Red.rfl))
         |((first|((with_reducible apply O1);rfl)|((with_reducible apply O2);rfl)|((with_reducible apply P1);rfl)|((with_reducible apply P2);rfl)|((with_reducible apply P3);rfl)|((with_reducible apply P4);rfl)|((with_reducible apply P5);rfl));(simp (disch:=omega);exact Red.rfl);exact Red.rfl;(focus (first|(simp;done)|omega|(simp;omega))))
         |((with_reducible first|apply Z7|apply Z8|apply Z9);(simp (disch:=omega);exact Red.rfl))
         |((with_reducible first|apply Z1|apply Z2|apply Z3|apply Z4|apply Z5|apply Z6);(simp (disch:=omega);exact Red.rfl))
         |((with_reducible first|apply W1|apply W2|apply W3);(simp (disch:=omega);exact Red.rfl))
         |((with_reducible apply P6);rfl;(simp (disch:=omega);exact Red.rfl);exact Red.rfl;(focus (first|(simp [pr];done)|(simp [pr];omega))))
         |((with_reducible apply P7);rfl;(simp (disch:=omega);exact Red.rfl);exact Red.rfl;(focus (simp [repast, pr, AOp.sem];done))))
        (with_reducible apply e_call); (simp; exact Red.rfl); exact c_sum _ fa n aid aoff aex x (x + 1 + z) (by first | exact ha | (rw [rd_old _ hid]; exact ha)) hF (by omega) (by omega) (by omega)
        rintro _ hqh ⟨rfl, hqe⟩
        rw [hqe]; clear hqe hqh
        rw [hl1]
        repeat (first
         |(with_reducible first|apply X1|apply X2|apply X3|apply X4|apply X5|apply X6|apply X7|apply X8|apply X9|apply Y1|apply Y2|apply Y3|apply Y4|apply Y5|apply Y6|apply Y7|apply Y8|apply Y9)
         |((with_reducible apply q_block_other);decide)
         |((with_reducible first|apply e_end|apply d_end);(simp;exact Red.rfl))
         |((first|((with_reducible apply O1);rfl)|((with_reducible apply O2);rfl)|((with_reducible apply P1);rfl)|((with_reducible apply P2);rfl)|((with_reducible apply P3);rfl)|((with_reducible apply P4);rfl)|((with_reducible apply P5);rfl));(simp (disch:=omega);exact Red.rfl);exact Red.rfl;(focus (first|(simp;done)|omega|(simp;omega))))
         |((with_reducible first|apply Z7|apply Z8|apply Z9);(simp (disch:=omega);exact Red.rfl))
         |((with_reducible first|apply Z1|apply Z2|apply Z3|apply Z4|apply Z5|apply Z6);(simp (disch:=omega);exact Red.rfl))
         |((with_reducible first|apply W1|apply W2|apply W3);(simp (disch:=omega);exact Red.rfl))
         |((with_reducible apply P6);rfl;(simp (disch:=omega);exact Red.rfl);exact Red.rfl;(focus (first|(simp [pr];done)|(simp [pr];omega))))
         |((with_reducible apply P7);rfl;(simp (disch:=omega);exact Red.rfl);exact Red.rfl;(focus (simp [repast, pr, AOp.sem];done))))
        (with_reducible apply e_call); (simp; exact Red.rfl); exact c_choose _ us uid uoff uex (7 * ((i : Int) + 1) + 2) (by first | exact hc | (rw [rd_old _ huid]; exact hc)) hu (by omega) (by omega) hnu
        rintro _ hqh ⟨rfl, hqe⟩
        rw [hqe]; clear hqe hqh
        by_cases hk : (chooseF us (7 * ((i : Int) + 1) + 2)).tmod 2 = 1
        · repeat (first
           |(with_reducible first|apply X1|apply X2|apply X3|apply X4|apply X5|apply X6|apply X7|apply X8|apply X9|apply Y1|apply Y2|apply Y3|apply Y4|apply Y5|apply Y6|apply Y7|apply Y8|apply Y9)
           |((with_reducible apply q_block_other);decide)
           |((with_reducible first|apply e_end|apply d_end);(simp;exact Red.rfl))
           |((first|((with_reducible apply O1);rfl)|((with_reducible apply O2);rfl)|((with_reducible apply P1);rfl)|((with_reducible apply P2);rfl)|((with_reducible apply P3);rfl)|((with_reducible apply P4);rfl)|((with_reducible apply P5);rfl));(simp (disch:=omega) [hk];exact Red.rfl);exact Red.rfl;(focus (first|(simp;done)|omega|(simp;omega))))
           |((with_reducible first|apply Z7|apply Z8|apply Z9);(simp (disch:=omega) [hk];exact Red.rfl))
           |((with_reducible first|apply Z1|apply Z2|apply Z3|apply Z4|apply Z5|apply Z6);(simp (disch:=omega) [hk];exact Red.rfl))
           |((with_reducible first|apply W1|apply W2|apply W3);(simp (disch:=omega) [hk];exact Red.rfl))
           |((with_reducible apply P6);rfl;(simp (disch:=omega) [hk];exact Red.rfl);exact Red.rfl;(focus (first|(simp [pr];done)|(simp [pr];omega))))
           |((with_reducible apply P7);rfl;(simp (disch:=omega) [hk];exact Red.rfl);exact Red.rfl;(focus (simp [repast, pr, AOp.sem];done))))
          (with_reducible apply e_call); (simp; exact Red.rfl); exact c_sum _ fb n bid boff bex x (x + 1 + z) (by first | exact hb | (rw [rd_old _ hbid]; exact hb)) hG (by omega) (by omega) (by omega)
          rintro _ hqh ⟨rfl, hqe⟩
          rw [hqe]; clear hqe hqh
          rw [hl1]
          generalize hs2 : sumF fb x (z + 1) = s at *
          repeat (first
           |(with_reducible first|apply X1|apply X2|apply X3|apply X4|apply X5|apply X6|apply X7|apply X8|apply X9|apply Y1|apply Y2|apply Y3|apply Y4|apply Y5|apply Y6|apply Y7|apply Y8|apply Y9)
           |((with_reducible apply q_block_other);decide)
           |((with_reducible first|apply e_end|apply d_end);(simp;exact Red.rfl))
           |((first|((with_reducible apply O1);rfl)|((with_reducible apply O2);rfl)|((with_reducible apply P1);rfl)|((with_reducible apply P2);rfl)|((with_reducible apply P3);rfl)|((with_reducible apply P4);rfl)|((with_reducible apply P5);rfl));(simp (disch:=omega);exact Red.rfl);exact Red.rfl;(focus (first|(simp;done)|omega|(simp;omega))))
           |((with_reducible first|apply Z7|apply Z8|apply Z9);(simp (disch:=omega);exact Red.rfl))
           |((with_reducible first|apply Z1|apply Z2|apply Z3|apply Z4|apply Z5|apply Z6);(simp (disch:=omega);exact Red.rfl))
           |((with_reducible first|apply W1|apply W2|apply W3);(simp (disch:=omega);exact Red.rfl))
           |((with_reducible apply P6);rfl;(simp (disch:=omega);exact Red.rfl);exact Red.rfl;(focus (first|(simp [pr];done)|(simp [pr];omega))))
           |((with_reducible apply P7);rfl;(simp (disch:=omega);exact Red.rfl);exact Red.rfl;(focus (simp [repast, pr, AOp.sem];done))))
          (with_reducible apply e_call); (simp; exact Red.rfl); exact c_choose _ us uid uoff uex (7 * ((i : Int) + 1) + 3) (by first | exact hc | (rw [rd_old _ huid]; exact hc)) hu (by omega) (by omega) hnu
          rintro _ hqh ⟨rfl, hqe⟩
          rw [hqe]; clear hqe hqh
          repeat (first
           |(with_reducible first|apply X1|apply X2|apply X3|apply X4|apply X5|apply X6|apply X7|apply X8|apply X9|apply Y1|apply Y2|apply Y3|apply Y4|apply Y5|apply Y6|apply Y7|apply Y8|apply Y9)
           |((with_reducible apply q_block_other);decide)
           |((with_reducible first|apply e_end|apply d_end);(simp;exact Red.rfl))
           |((first|((with_reducible apply O1);rfl)|((with_reducible apply O2);rfl)|((with_reducible apply P1);rfl)|((with_reducible apply P2);rfl)|((with_reducible apply P3);rfl)|((with_reducible apply P4);rfl)|((with_reducible apply P5);rfl));(simp (disch:=omega) [hp];exact Red.rfl);exact Red.rfl;(focus (first|(simp;done)|omega|(simp;omega))))
           |((with_reducible first|apply Z7|apply Z8|apply Z9);(simp (disch:=omega) [hp];exact Red.rfl))
           |((with_reducible first|apply Z1|apply Z2|apply Z3|apply Z4|apply Z5|apply Z6);(simp (disch:=omega) [hp];exact Red.rfl))
           |((with_reducible first|apply W1|apply W2|apply W3);(simp (disch:=omega) [hp];exact Red.rfl))
           |((with_reducible apply P6);rfl;(simp (disch:=omega) [hp];exact Red.rfl);exact Red.rfl;(focus (first|(simp [pr];done)|(simp [pr];omega))))
           |((with_reducible apply P7);rfl;(simp (disch:=omega) [hp];exact Red.rfl);exact Red.rfl;(focus (simp [repast, pr, AOp.sem];done))))
          (with_reducible apply e_call); (simp; exact Red.rfl); exact c_choose _ us uid uoff uex (7 * ((i : Int) + 1) + 4) (by first | exact hc | (rw [rd_old _ huid]; exact hc)) hu (by omega) (by omega) hnu
          rintro _ hqh ⟨rfl, hqe⟩
          rw [hqe]; clear hqe hqh
          repeat (first
           |(with_reducible first|apply X1|apply X2|apply X3|apply X4|apply X5|apply X6|apply X7|apply X8|apply X9|apply Y1|apply Y2|apply Y3|apply Y4|apply Y5|apply Y6|apply Y7|apply Y8|apply Y9)
           |((with_reducible apply q_block_other);decide)
           |((with_reducible first|apply e_end|apply d_end);(simp;exact Red.rfl))
           |((first|((with_reducible apply O1);rfl)|((with_reducible apply O2);rfl)|((with_reducible apply P1);rfl)|((with_reducible apply P2);rfl)|((with_reducible apply P3);rfl)|((with_reducible apply P4);rfl)|((with_reducible apply P5);rfl));(simp (disch:=omega) [hq];exact Red.rfl);exact Red.rfl;(focus (first|(simp;done)|omega|(simp;omega))))
           |((with_reducible first|apply Z7|apply Z8|apply Z9);(simp (disch:=omega) [hq];exact Red.rfl))
           |((with_reducible first|apply Z1|apply Z2|apply Z3|apply Z4|apply Z5|apply Z6);(simp (disch:=omega) [hq];exact Red.rfl))
           |((with_reducible first|apply W1|apply W2|apply W3);(simp (disch:=omega) [hq];exact Red.rfl))
           |((with_reducible apply P6);rfl;(simp (disch:=omega) [hq];exact Red.rfl);exact Red.rfl;(focus (first|(simp [pr];done)|(simp [pr];omega))))
           |((with_reducible apply P7);rfl;(simp (disch:=omega) [hq];exact Red.rfl);exact Red.rfl;(focus (simp [repast, pr, AOp.sem];done))))
          (with_reducible apply e_call); (simp; exact Red.rfl); exact c_span _ _ _
          rintro _ hqh ⟨rfl, hqe⟩
          rw [hqe]; clear hqe hqh
          repeat (first
           |(with_reducible first|apply X1|apply X2|apply X3|apply X4|apply X5|apply X6|apply X7|apply X8|apply X9|apply Y1|apply Y2|apply Y3|apply Y4|apply Y5|apply Y6|apply Y7|apply Y8|apply Y9)
           |((with_reducible apply q_block_other);decide)
           |((with_reducible first|apply e_end|apply d_end);(simp;exact Red.rfl))
           |((first|((with_reducible apply O1);rfl)|((with_reducible apply O2);rfl)|((with_reducible apply P1);rfl)|((with_reducible apply P2);rfl)|((with_reducible apply P3);rfl)|((with_reducible apply P4);rfl)|((with_reducible apply P5);rfl));(simp (disch:=omega) [hpm.scal, plen, take_all plen];exact Red.rfl);exact Red.rfl;(focus (first|(simp;done)|omega|(simp;omega))))
           |((with_reducible first|apply Z7|apply Z8|apply Z9);(simp (disch:=omega) [hpm.scal, plen, take_all plen];exact Red.rfl))
           |((with_reducible first|apply Z1|apply Z2|apply Z3|apply Z4|apply Z5|apply Z6);(simp (disch:=omega) [hpm.scal, plen, take_all plen];exact Red.rfl))
           |((with_reducible first|apply W1|apply W2|apply W3);(simp (disch:=omega) [hpm.scal, plen, take_all plen];exact Red.rfl))
           |((with_reducible apply P6);rfl;(simp (disch:=omega) [hpm.scal, plen, take_all plen];exact Red.rfl);exact Red.rfl;(focus (first|(simp [pr];done)|(simp [pr];omega))))
           |((with_reducible apply P7);rfl;(simp (disch:=omega) [hpm.scal, plen, take_all plen];exact Red.rfl);exact Red.rfl;(focus (simp [repast, pr, AOp.sem];done))))
          refine q_again ⟨(i + 1 + 1, ms ++ [⟨2, x, (x : Int) + 1 + z, if (p : Int) < s then s - p else 0, if s + q < 360000 then s + q else 360000⟩]), by simp [hlen], by omega, ?_⟩ (by dsimp only; omega) (.inr ?_)
          · intro j hj
            rcases Nat.lt_or_ge j ms.length with h | h
            · rw [List.getElem_append_left h]; exact hms j h
            · simp at hj
              obtain rfl : j = ms.length := by omega
              rw [List.getElem_concat_length rfl]
              exact mk_ok (by omega) (by omega) (by omega) (by omega) (by omega) (.inr ⟨rfl, hs2⟩)
          · simp only [slT, mmT, Nat.succ_ne_zero, if_false, List.flatMap_append, List.flatMap_cons, List.flatMap_nil, List.append_nil]
            exact le_plain [3] _ (by simp) (by rfl) (by simp only [List.forall_mem_cons]; exact ⟨(hpm.app (plain_ms [_])).o _, fun x hx => by cases hx⟩) (by simp [sh, AV.ren, hid, hbid, huid]; omega)
        · repeat (first
           |(with_reducible first|apply X1|apply X2|apply X3|apply X4|apply X5|apply X6|apply X7|apply X8|apply X9|apply Y1|apply Y2|apply Y3|apply Y4|apply Y5|apply Y6|apply Y7|apply Y8|apply Y9)
           |((with_reducible apply q_block_other);decide)
           |((with_reducible first|apply e_end|apply d_end);(simp;exact Red.rfl))
           |((first|((with_reducible apply O1);rfl)|((with_reducible apply O2);rfl)|((with_reducible apply P1);rfl)|((with_reducible apply P2);rfl)|((with_reducible apply P3);rfl)|((with_reducible apply P4);rfl)|((with_reducible apply P5);rfl));(simp (disch:=omega) [hk];exact Red.rfl);exact Red.rfl;(focus (first|(simp;done)|omega|(simp;omega))))
           |((with_reducible first|apply Z7|apply Z8|apply Z9);(simp (disch:=omega) [hk];exact Red.rfl))
           |((with_reducible first|apply Z1|apply Z2|apply Z3|apply Z4|apply Z5|apply Z6);(simp (disch:=omega) [hk];exact Red.rfl))
           |((with_reducible first|apply W1|apply W2|apply W3);(simp (disch:=omega) [hk];exact Red.rfl))
           |((with_reducible apply P6);rfl;(simp (disch:=omega) [hk];exact Red.rfl);exact Red.rfl;(focus (first|(simp [pr];done)|(simp [pr];omega))))
           |((with_reducible apply P7);rfl;(simp (disch:=omega) [hk];exact Red.rfl);exact Red.rfl;(focus (simp [repast, pr, AOp.sem];done))))
          generalize hs1 : sumF fa x (z + 1) = s at *
          repeat (first
           |(with_reducible first|apply X1|apply X2|apply X3|apply X4|apply X5|apply X6|apply X7|apply X8|apply X9|apply Y1|apply Y2|apply Y3|apply Y4|apply Y5|apply Y6|apply Y7|apply Y8|apply Y9)
           |((with_reducible apply q_block_other);decide)
           |((with_reducible first|apply e_end|apply d_end);(simp;exact Red.rfl))
           |((first|((with_reducible apply O1);rfl)|((with_reducible apply O2);rfl)|((with_reducible apply P1);rfl)|((with_reducible apply P2);rfl)|((with_reducible apply P3);rfl)|((with_reducible apply P4);rfl)|((with_reducible apply P5);rfl));(simp (disch:=omega);exact Red.rfl);exact Red.rfl;(focus (first|(simp;done)|omega|(simp;omega))))
           |((with_reducible first|apply Z7|apply Z8|apply Z9);(simp (disch:=omega);exact Red.rfl))
           |((with_reducible first|apply Z1|apply Z2|apply Z3|apply Z4|apply Z5|apply Z6);(simp (disch:=omega);exact Red.rfl))
           |((with_reducible first|apply W1|apply W2|apply W3);(simp (disch:=omega);exact Red.rfl))
           |((with_reducible apply P6);rfl;(simp (disch:=omega);exact Red.rfl);exact Red.rfl;(focus (first|(simp [pr];done)|(simp [pr];omega))))
           |((with_reducible apply P7);rfl;(simp (disch:=omega);exact Red.rfl);exact Red.rfl;(focus (simp [repast, pr, AOp.sem];done))))
          (with_reducible apply e_call); (simp; exact Red.rfl); exact c_choose _ us uid uoff uex (7 * ((i : Int) + 1) + 3) (by first | exact hc | (rw [rd_old _ huid]; exact hc)) hu (by omega) (by omega) hnu
          rintro _ hqh ⟨rfl, hqe⟩
          rw [hqe]; clear hqe hqh
          repeat (first
           |(with_reducible first|apply X1|apply X2|apply X3|apply X4|apply X5|apply X6|apply X7|apply X8|apply X9|apply Y1|apply Y2|apply Y3|apply Y4|apply Y5|apply Y6|apply Y7|apply Y8|apply Y9)
           |((with_reducible apply q_block_other);decide)
           |((with_reducible first|apply e_end|apply d_end);(simp;exact Red.rfl))
           |((first|((with_reducible apply O1);rfl)|((with_reducible apply O2);rfl)|((with_reducible apply P1);rfl)|((with_reducible apply P2);rfl)|((with_reducible apply P3);rfl)|((with_reducible apply P4);rfl)|((with_reducible apply P5);rfl));(simp (disch:=omega) [hp];exact Red.rfl);exact Red.rfl;(focus (first|(simp;done)|omega|(simp;omega))))
           |((with_reducible first|apply Z7|apply Z8|apply Z9);(simp (disch:=omega) [hp];exact Red.rfl))
           |((with_reducible first|apply Z1|apply Z2|apply Z3|apply Z4|apply Z5|apply Z6);(simp (disch:=omega) [hp];exact Red.rfl))
           |((with_reducible first|apply W1|apply W2|apply W3);(simp (disch:=omega) [hp];exact Red.rfl))
           |((with_reducible apply P6);rfl;(simp (disch:=omega) [hp];exact Red.rfl);exact Red.rfl;(focus (first|(simp [pr];done)|(simp [pr];omega))))
           |((with_reducible apply P7);rfl;(simp (disch:=omega) [hp];exact Red.rfl);exact Red.rfl;(focus (simp [repast, pr, AOp.sem];done))))
          (with_reducible apply e_call); (simp; exact Red.rfl); exact c_choose _ us uid uoff uex (7 * ((i : Int) + 1) + 4) (by first | exact hc | (rw [rd_old _ huid]; exact hc)) hu (by omega) (by omega) hnu
          rintro _ hqh ⟨rfl, hqe⟩
          rw [hqe]; clear hqe hqh
          repeat (first
           |(with_reducible first|apply X1|apply X2|apply X3|apply X4|apply X5|apply X6|apply X7|apply X8|apply X9|apply Y1|apply Y2|apply Y3|apply Y4|apply Y5|apply Y6|apply Y7|apply Y8|apply Y9)
           |((with_reducible apply q_block_other);decide)
           |((with_reducible first|apply e_end|apply d_end);(simp;exact Red.rfl))
           |((first|((with_reducible apply O1);rfl)|((with_reducible apply O2);rfl)|((with_reducible apply P1);rfl)|((with_reducible apply P2);rfl)|((with_reducible apply P3);rfl)|((with_reducible apply P4);rfl)|((with_reducible apply P5);rfl));(simp (disch:=omega) [hq];exact Red.rfl);exact Red.rfl;(focus (first|(simp;done)|omega|(simp;omega))))
           |((with_reducible first|apply Z7|apply Z8|apply Z9);(simp (disch:=omega) [hq];exact Red.rfl))
           |((with_reducible first|apply Z1|apply Z2|apply Z3|apply Z4|apply Z5|apply Z6);(simp (disch:=omega) [hq];exact Red.rfl))
           |((with_reducible first|apply W1|apply W2|apply W3);(simp (disch:=omega) [hq];exact Red.rfl))
           |((with_reducible apply P6);rfl;(simp (disch:=omega) [hq];exact Red.rfl);exact Red.rfl;(focus (first|(simp [pr];done)|(simp [pr];omega))))
           |((with_reducible apply P7);rfl;(simp (disch:=omega) [hq];exact Red.rfl);exact Red.rfl;(focus (simp [repast, pr, AOp.sem];done))))
          (with_reducible apply e_call); (simp; exact Red.rfl); exact c_span _ _ _
          rintro _ hqh ⟨rfl, hqe⟩
          rw [hqe]; clear hqe hqh
          repeat (first
           |(with_reducible first|apply X1|apply X2|apply X3|apply X4|apply X5|apply X6|apply X7|apply X8|apply X9|apply Y1|apply Y2|apply Y3|apply Y4|apply Y5|apply Y6|apply Y7|apply Y8|apply Y9)
           |((with_reducible apply q_block_other);decide)
           |((with_reducible first|apply e_end|apply d_end);(simp;exact Red.rfl))
           |((first|((with_reducible apply O1);rfl)|((with_reducible apply O2);rfl)|((with_reducible apply P1);rfl)|((with_reducible apply P2);rfl)|((with_reducible apply P3);rfl)|((with_reducible apply P4);rfl)|((with_reducible apply P5);rfl));(simp (disch:=omega) [hpm.scal, plen, take_all plen];exact Red.rfl);exact Red.rfl;(focus (first|(simp;done)|omega|(simp;omega))))
           |((with_reducible first|apply Z7|apply Z8|apply Z9);(simp (disch:=omega) [hpm.scal, plen, take_all plen];exact Red.rfl))
           |((with_reducible first|apply Z1|apply Z2|apply Z3|apply Z4|apply Z5|apply Z6);(simp (disch:=omega) [hpm.scal, plen, take_all plen];exact Red.rfl))
           |((with_reducible first|apply W1|apply W2|apply W3);(simp (disch:=omega) [hpm.scal, plen, take_all plen];exact Red.rfl))
           |((with_reducible apply P6);rfl;(simp (disch:=omega) [hpm.scal, plen, take_all plen];exact Red.rfl);exact Red.rfl;(focus (first|(simp [pr];done)|(simp [pr];omega))))
           |((with_reducible apply P7);rfl;(simp (disch:=omega) [hpm.scal, plen, take_all plen];exact Red.rfl);exact Red.rfl;(focus (simp [repast, pr, AOp.sem];done))))
          refine q_again ⟨(i + 1 + 1, ms ++ [⟨1, x, (x : Int) + 1 + z, if (p : Int) < s then s - p else 0, if s + q < 360000 then s + q else 360000⟩]), by simp [hlen], by omega, ?_⟩ (by dsimp only; omega) (.inr ?_)
          · intro j hj
            rcases Nat.lt_or_ge j ms.length with h | h
            · rw [List.getElem_append_left h]; exact hms j h
            · simp at hj
              obtain rfl : j = ms.length := by omega
              rw [List.getElem_concat_length rfl]
              exact mk_ok (by omega) (by omega) (by omega) (by omega) (by omega) (.inl ⟨rfl, hs1⟩)
          · simp only [slT, mmT, Nat.succ_ne_zero, if_false, List.flatMap_append, List.flatMap_cons, List.flatMap_nil, List.append_nil]
            exact le_plain [3] _ (by simp) (by rfl) (by simp only [List.forall_mem_cons]; exact ⟨(hpm.app (plain_ms [_])).o _, fun x hx => by cases hx⟩) (by simp [sh, AV.ren, hid, hbid, huid]; omega)
    · obtain rfl : i = many := by omega
      cases i with
      | zero =>
        obtain rfl : ms = [] := List.length_eq_zero_iff.1 hlen
        simp only [slT, mmT, if_true, List.append_nil]
        repeat (first
         |(with_reducible first|apply X1|apply X2|apply X3|apply X4|apply X5|apply X6|apply X7|apply X8|apply X9|apply Y1|apply Y2|apply Y3|apply Y4|apply Y5|apply Y6|apply Y7|apply Y8|apply Y9)
         |((with_reducible apply q_block_other);decide)
         |((with_reducible first|apply e_end|apply d_end);(simp;exact Red.rfl))
         |((first|((with_reducible apply O1);rfl)|((with_reducible apply O2);rfl)|((with_reducible apply P1);rfl)|((with_reducible apply P2);rfl)|((with_reducible apply P3);rfl)|((with_reducible apply P4);rfl)|((with_reducible apply P5);rfl));(simp (disch:=omega);exact Red.rfl);exact Red.rfl;(focus (first|(simp;done)|omega|(simp;omega))))
         |((with_reducible first|apply Z7|apply Z8|apply Z9);(simp (disch:=omega);exact Red.rfl))
         |((with_reducible first|apply Z1|apply Z2|apply Z3|apply Z4|apply Z5|apply Z6);(simp (disch:=omega);exact Red.rfl))
         |((with_reducible first|apply W1|apply W2|apply W3);(simp (disch:=omega);exact Red.rfl))
         |((with_reducible apply P6);rfl;(simp (disch:=omega);exact Red.rfl);exact Red.rfl;(focus (first|(simp [pr];done)|(simp [pr];omega))))
         |((with_reducible apply P7);rfl;(simp (disch:=omega);exact Red.rfl);exact Red.rfl;(focus (simp [repast, pr, AOp.sem];done))))
        refine q_stay (.inr rfl) (by simp; exact Red.rfl) ⟨[], rfl, by intro j h; simp at h, rfl, rfl⟩
      | succ i =>
        have hlt2 : ¬ ((i : Int) + 1 < (i : Int) + 1) := by omega
        simp only [slT, mmT, Nat.succ_ne_zero, if_false]
        repeat (first
         |(with_reducible first|apply X1|apply X2|apply X3|apply X4|apply X5|apply X6|apply X7|apply X8|apply X9|apply Y1|apply Y2|apply Y3|apply Y4|apply Y5|apply Y6|apply Y7|apply Y8|apply Y9)
         |((with_reducible apply q_block_other);decide)
         |((with_reducible first|apply e_end|apply d_end);(simp;exact Red.rfl))
         |((first|((with_reducible apply O1);rfl)|((with_reducible apply O2);rfl)|((with_reducible apply P1);rfl)|((with_reducible apply P2);rfl)|((with_reducible apply P3);rfl)|((with_reducible apply P4);rfl)|((with_reducible apply P5);rfl));(simp (disch:=omega);exact Red.rfl);exact Red.rfl;(focus (first|(simp;done)|omega|(simp;omega))))
         |((with_reducible first|apply Z7|apply Z8|apply Z9);(simp (disch:=omega);exact Red.rfl))
         |((with_reducible first|apply Z1|apply Z2|apply Z3|apply Z4|apply Z5|apply Z6);(simp (disch:=omega);exact Red.rfl))
         |((with_reducible first|apply W1|apply W2|apply W3);(simp (disch:=omega);exact Red.rfl))
         |((with_reducible apply P6);rfl;(simp (disch:=omega);exact Red.rfl);exact Red.rfl;(focus (first|(simp [pr];done)|(simp [pr];omega))))
         |((with_reducible apply P7);rfl;(simp (disch:=omega);exact Red.rfl);exact Red.rfl;(focus (simp [repast, pr, AOp.sem];done))))
        refine q_stay (.inr rfl) (by simp; exact Red.rfl) ⟨ms, hlen, hms, rfl, rfl⟩
end Go.Proofs
