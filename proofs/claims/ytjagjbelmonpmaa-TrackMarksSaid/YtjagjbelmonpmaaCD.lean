/- Several texts as one. -/
import Derived.Test.YtjagjbelmonpmaaCC
/- Contracts: slopes, and the steepest. -/
namespace Go.Proofs
open Go.Abs
attribute [local simp] AOp.den AOpd.ev lk cellsOf rd_new rd_new0 rd_zero rd_succ wr_new wr_new0 wr_zero wr_succ splice fillA binA scal sliceCells List.length_append argsT AV.sc scL AObj.sc resV getAll AR.get AOp.slots opdSlots opdsSlots partSlots eqAt wrap64
set_option linter.unusedSimpArgs false
set_option linter.unusedVariables false

theorem valid_str {l : List Str} (hv : validL l) {i : Nat} (hi : i < l.length) : l[i].ok := (hv.2 i hi).2.1
def slopeLo (s : Str) : Int := s.fLo * 1000 / s.lHi
def slopeHi (s : Str) : Int := (s.fHi * 1000 + s.lLo - 1) / s.lLo

theorem c_Slope (H : Heap) (l : List Str) (id off i : Nat) (ex : Bool) (hs : rd H id off (l.length * 9) = some (l.flatMap Str.av)) (hv : validL l) (hi : i < l.length) :
    ACalls Try.prog F.track_Slope [.agg [.slice id off l.length 9 ex], .int .i64 i] H (fun v h' => v = .tuple [.agg [.int .i64 (slopeLo l[i]), .int .i64 (slopeHi l[i])], .int .i64 0] ∧ h' = H) := by
  refine acalls_of ok_track_Slope rfl fun hcl => ?_
  unfold ac_track_Slope
  simp only [argsT, Nat.zero_add, Nat.reduceAdd]
  have hid := rd_lt hs
  have h12 := hv.1
  repeat (first|(with_reducible first|apply X1|apply X2|apply X3|apply X4|apply X5|apply X6|apply X7|apply X8|apply X9|apply Y1|apply Y2|apply Y3|apply Y4|apply Y5|apply Y6|apply Y7|apply Y8|apply Y9)|((with_reducible apply q_block_other);decide)|((with_reducible first|apply e_end|apply d_end);(simp;exact Red.rfl))|((first|((with_reducible apply O1);rfl)|((with_reducible apply O2);rfl)|((with_reducible apply P1);rfl)|((with_reducible apply P2);rfl)|((with_reducible apply P3);rfl)|((with_reducible apply P4);rfl)|((with_reducible apply P5);rfl));(simp (disch:=omega);exact Red.rfl);exact Red.rfl;(focus (first|(simp;done)|omega|(simp;omega))))|((with_reducible first|apply Z7|apply Z8|apply Z9);(simp (disch:=omega);exact Red.rfl))|((with_reducible first|apply Z1|apply Z2|apply Z3|apply Z4|apply Z5|apply Z6);(simp (disch:=omega);exact Red.rfl))|((with_reducible first|apply W1|apply W2|apply W3);(simp (disch:=omega);exact Red.rfl))|((with_reducible apply P6);rfl;(simp (disch:=omega);exact Red.rfl);exact Red.rfl;(focus (first|(simp [pr];done)|(simp [pr];omega))))|((with_reducible apply P7);rfl;(simp (disch:=omega);exact Red.rfl);exact Red.rfl;(focus (simp [repast, pr, AOp.sem];done))))
  (with_reducible apply e_call); (simp; exact Red.rfl); exact c_Check _ l id off ex (by rw [rd_old _ hid]; exact hs) (by omega)
  rintro _ _ ⟨rfl, e, rfl, he⟩
  obtain rfl : e = 0 := by
    rcases he with h | h
    · exact h.2
    · exact absurd hv h.1
  repeat (first|(with_reducible first|apply X1|apply X2|apply X3|apply X4|apply X5|apply X6|apply X7|apply X8|apply X9|apply Y1|apply Y2|apply Y3|apply Y4|apply Y5|apply Y6|apply Y7|apply Y8|apply Y9)|((with_reducible apply q_block_other);decide)|((with_reducible first|apply e_end|apply d_end);(simp;exact Red.rfl))|((first|((with_reducible apply O1);rfl)|((with_reducible apply O2);rfl)|((with_reducible apply P1);rfl)|((with_reducible apply P2);rfl)|((with_reducible apply P3);rfl)|((with_reducible apply P4);rfl)|((with_reducible apply P5);rfl));(simp (disch:=omega);exact Red.rfl);exact Red.rfl;(focus (first|(simp;done)|omega|(simp;omega))))|((with_reducible first|apply Z7|apply Z8|apply Z9);(simp (disch:=omega);exact Red.rfl))|((with_reducible first|apply Z1|apply Z2|apply Z3|apply Z4|apply Z5|apply Z6);(simp (disch:=omega);exact Red.rfl))|((with_reducible first|apply W1|apply W2|apply W3);(simp (disch:=omega);exact Red.rfl))|((with_reducible apply P6);rfl;(simp (disch:=omega);exact Red.rfl);exact Red.rfl;(focus (first|(simp [pr];done)|(simp [pr];omega))))|((with_reducible apply P7);rfl;(simp (disch:=omega);exact Red.rfl);exact Red.rfl;(focus (simp [repast, pr, AOp.sem];done))))
  (with_reducible apply e_call); (simp; exact Red.rfl); exact c_upto _ _
  rintro _ _ ⟨rfl, rfl⟩
  repeat (first|(with_reducible first|apply X1|apply X2|apply X3|apply X4|apply X5|apply X6|apply X7|apply X8|apply X9|apply Y1|apply Y2|apply Y3|apply Y4|apply Y5|apply Y6|apply Y7|apply Y8|apply Y9)|((with_reducible apply q_block_other);decide)|((with_reducible first|apply e_end|apply d_end);(simp;exact Red.rfl))|((first|((with_reducible apply O1);rfl)|((with_reducible apply O2);rfl)|((with_reducible apply P1);rfl)|((with_reducible apply P2);rfl)|((with_reducible apply P3);rfl)|((with_reducible apply P4);rfl)|((with_reducible apply P5);rfl));(simp (disch:=omega);exact Red.rfl);exact Red.rfl;(focus (first|(simp;done)|omega|(simp;omega))))|((with_reducible first|apply Z7|apply Z8|apply Z9);(simp (disch:=omega);exact Red.rfl))|((with_reducible first|apply Z1|apply Z2|apply Z3|apply Z4|apply Z5|apply Z6);(simp (disch:=omega);exact Red.rfl))|((with_reducible first|apply W1|apply W2|apply W3);(simp (disch:=omega);exact Red.rfl))|((with_reducible apply P6);rfl;(simp (disch:=omega);exact Red.rfl);exact Red.rfl;(focus (first|(simp [pr];done)|(simp [pr];omega))))|((with_reducible apply P7);rfl;(simp (disch:=omega);exact Red.rfl);exact Red.rfl;(focus (simp [repast, pr, AOp.sem];done))))
  (with_reducible apply e_call); (simp; exact Red.rfl)
  · exact c_within _ 0 ((l.length : Int) - 1) [(i : Int)] (H.length + 2) 0 true (by simp) (by simp)
  rintro v _ ⟨hv2, rfl⟩
  obtain rfl : v = .bool true := by rw [hv2, AV.bool.injEq]; simp; omega
  have hx := rd_row Str.av_length hs hi
  have ho := valid_str hv hi
  generalize hsi : l[i] = s at hx ho
  obtain ⟨a1, a2, a3, a4, a5, a6, a7, a8, a9⟩ := s
  simp only [Str.av] at hx
  simp only [Str.ok] at ho
  have q1 : (a4 * 1000).tdiv a3 = a4 * 1000 / a3 := Int.tdiv_eq_ediv_of_nonneg (by omega)
  have q2 : (a5 * 1000 + a2 - 1).tdiv a2 = (a5 * 1000 + a2 - 1) / a2 := Int.tdiv_eq_ediv_of_nonneg (by omega)
  have r1 := Int.ediv_le_self (a := a4 * 1000) a3 (by omega)
  have r2 := Int.ediv_le_self (a := a5 * 1000 + a2 - 1) a2 (by omega)
  have r3 := Int.ediv_nonneg (a := a4 * 1000) (b := a3) (by omega) (by omega)
  have r4 := Int.ediv_nonneg (a := a5 * 1000 + a2 - 1) (b := a2) (by omega) (by omega)
  repeat (first|(with_reducible first|apply X1|apply X2|apply X3|apply X4|apply X5|apply X6|apply X7|apply X8|apply X9|apply Y1|apply Y2|apply Y3|apply Y4|apply Y5|apply Y6|apply Y7|apply Y8|apply Y9)|((with_reducible apply q_block_other);decide)|((with_reducible first|apply e_end|apply d_end);(simp;exact Red.rfl))|((first|((with_reducible apply O1);rfl)|((with_reducible apply O2);rfl)|((with_reducible apply P1);rfl)|((with_reducible apply P2);rfl)|((with_reducible apply P3);rfl)|((with_reducible apply P4);rfl)|((with_reducible apply P5);rfl));(simp (disch:=omega) [rd_old _ hid, hx, q1, q2, hi];exact Red.rfl);exact Red.rfl;(focus (first|(simp;done)|omega|(simp;omega))))|((with_reducible first|apply Z7|apply Z8|apply Z9);(simp (disch:=omega) [rd_old _ hid, hx, q1, q2, hi];exact Red.rfl))|((with_reducible first|apply Z1|apply Z2|apply Z3|apply Z4|apply Z5|apply Z6);(simp (disch:=omega) [rd_old _ hid, hx, q1, q2, hi];exact Red.rfl))|((with_reducible first|apply W1|apply W2|apply W3);(simp (disch:=omega) [rd_old _ hid, hx, q1, q2, hi];exact Red.rfl))|((with_reducible apply P6);rfl;(simp (disch:=omega) [rd_old _ hid, hx, q1, q2, hi];exact Red.rfl);exact Red.rfl;(focus (first|(simp [pr];done)|(simp [pr];omega))))|((with_reducible apply P7);rfl;(simp (disch:=omega) [rd_old _ hid, hx, q1, q2, hi];exact Red.rfl);exact Red.rfl;(focus (simp [repast, pr, AOp.sem];done))))
  exact q_drop (.inr rfl) (by simp; exact Red.rfl) (by simp) ⟨rfl, rfl⟩

def steepB (l : List Str) (i : Nat) (s : Str) (k : Nat) : Prop := k ≠ i ∧ s.fHi * (strAt l k).lHi < (strAt l k).fLo * s.lLo
theorem c_steep1 (H : Heap) (l : List Str) (id off i tid : Nat) (ex : Bool) (hs : rd H id off (l.length * 9) = some (l.flatMap Str.av)) (hv : validL l) (hi : i < l.length)
    (ht : rd H tid 0 1 = some [.slice id off l.length 9 ex]) :
    ACalls Try.prog F.track_Steepest_1 [.int .i64 i, .agg l[i].av, .ptr tid 0] H (fun v h' => h' = H ∧ ∃ b : Bool, v = .bool b ∧ (b = true ↔ ∀ k, k < l.length → ¬ steepB l i l[i] k)) := by
  refine acalls_of ok_track_Steepest_1 rfl fun hcl => ?_
  unfold ac_track_Steepest_1
  simp only [argsT, Nat.zero_add, Nat.reduceAdd]
  have hid := rd_lt hs
  have htid := rd_lt ht
  have h12 := hv.1
  have hoi := valid_str hv hi
  generalize hsi : l[i] = s at hoi
  obtain ⟨b1, b2, b3, b4, b5, b6, b7, b8, b9⟩ := s
  simp only [Str.av]
  simp only [Str.ok] at hoi
  repeat (first|(with_reducible first|apply X1|apply X2|apply X3|apply X4|apply X5|apply X6|apply X7|apply X8|apply X9|apply Y1|apply Y2|apply Y3|apply Y4|apply Y5|apply Y6|apply Y7|apply Y8|apply Y9)|((with_reducible apply q_block_other);decide)|((with_reducible first|apply e_end|apply d_end);(simp;exact Red.rfl))|((first|((with_reducible apply O1);rfl)|((with_reducible apply O2);rfl)|((with_reducible apply P1);rfl)|((with_reducible apply P2);rfl)|((with_reducible apply P3);rfl)|((with_reducible apply P4);rfl)|((with_reducible apply P5);rfl));(simp (disch:=omega) [rd_old _ htid, ht];exact Red.rfl);exact Red.rfl;(focus (first|(simp;done)|omega|(simp;omega))))|((with_reducible first|apply Z7|apply Z8|apply Z9);(simp (disch:=omega) [rd_old _ htid, ht];exact Red.rfl))|((with_reducible first|apply Z1|apply Z2|apply Z3|apply Z4|apply Z5|apply Z6);(simp (disch:=omega) [rd_old _ htid, ht];exact Red.rfl))|((with_reducible first|apply W1|apply W2|apply W3);(simp (disch:=omega) [rd_old _ htid, ht];exact Red.rfl))|((with_reducible apply P6);rfl;(simp (disch:=omega) [rd_old _ htid, ht];exact Red.rfl);exact Red.rfl;(focus (first|(simp [pr];done)|(simp [pr];omega))))|((with_reducible apply P7);rfl;(simp (disch:=omega) [rd_old _ htid, ht];exact Red.rfl);exact Red.rfl;(focus (simp [repast, pr, AOp.sem];done))))
  refine e_loop (ι := { k : Nat // k ≤ l.length ∧ ∀ j, j < k → ¬ steepB l i ⟨b1, b2, b3, b4, b5, b6, b7, b8, b9⟩ j })
    (fun k => [(0, .int .i64 i), (4, .ptr H.length 0), (9, .slice id off l.length 9 ex), (10, .int .i64 l.length), (11, .int .i64 k.1)])
    (fun _ => H ++ [.cells [.int .i64 b1, .int .i64 b2, .int .i64 b3, .int .i64 b4, .int .i64 b5, .int .i64 b6, .int .i64 b7, .int .u8 b8, .int .i64 b9] true]) (fun k => l.length - k.1) ⟨0, by simp⟩ ?_ ?_
  · exact .inr <| le_same (by simp [hid]) (by simp [hid, Red]; omega)
  · rintro ⟨k, hk1, hk2⟩
    dsimp only
    repeat (first|(with_reducible first|apply X1|apply X2|apply X3|apply X4|apply X5|apply X6|apply X7|apply X8|apply X9|apply Y1|apply Y2|apply Y3|apply Y4|apply Y5|apply Y6|apply Y7|apply Y8|apply Y9)|((with_reducible apply q_block_other);decide)|((with_reducible first|apply e_end|apply d_end);(simp;exact Red.rfl))|((first|((with_reducible apply O1);rfl)|((with_reducible apply O2);rfl)|((with_reducible apply P1);rfl)|((with_reducible apply P2);rfl)|((with_reducible apply P3);rfl)|((with_reducible apply P4);rfl)|((with_reducible apply P5);rfl));(simp (disch:=omega);exact Red.rfl);exact Red.rfl;(focus (first|(simp;done)|omega|(simp;omega))))|((with_reducible first|apply Z7|apply Z8|apply Z9);(simp (disch:=omega);exact Red.rfl))|((with_reducible first|apply Z1|apply Z2|apply Z3|apply Z4|apply Z5|apply Z6);(simp (disch:=omega);exact Red.rfl))|((with_reducible first|apply W1|apply W2|apply W3);(simp (disch:=omega);exact Red.rfl))|((with_reducible apply P6);rfl;(simp (disch:=omega);exact Red.rfl);exact Red.rfl;(focus (first|(simp [pr];done)|(simp [pr];omega))))|((with_reducible apply P7);rfl;(simp (disch:=omega);exact Red.rfl);exact Red.rfl;(focus (simp [repast, pr, AOp.sem];done))))
    (with_reducible apply e_dec); (simp; exact Red.rfl)
    · intro hlt
      have hlt : k < l.length := by omega
      have hx := rd_row Str.av_length hs hlt
      have ho := valid_str hv hlt
      have hst := strAt_eq hlt
      generalize hsk : l[k] = s at hx ho hst
      obtain ⟨a1, a2, a3, a4, a5, a6, a7, a8, a9⟩ := s
      simp only [Str.av] at hx
      simp only [Str.ok] at ho
      have m1 : 0 ≤ b5 * a3 := Int.mul_nonneg (by omega) (by omega)
      have m2 : b5 * a3 ≤ 5000 * 30000 := Int.mul_le_mul (by omega) (by omega) (by omega) (by omega)
      have m3 : 0 ≤ a4 * b2 := Int.mul_nonneg (by omega) (by omega)
      have m4 : a4 * b2 ≤ 5000 * 30000 := Int.mul_le_mul (by omega) (by omega) (by omega) (by omega)
      by_cases hki : k = i
      · subst hki
        repeat (first|(with_reducible first|apply X1|apply X2|apply X3|apply X4|apply X5|apply X6|apply X7|apply X8|apply X9|apply Y1|apply Y2|apply Y3|apply Y4|apply Y5|apply Y6|apply Y7|apply Y8|apply Y9)|((with_reducible apply q_block_other);decide)|((with_reducible first|apply e_end|apply d_end);(simp;exact Red.rfl))|((first|((with_reducible apply O1);rfl)|((with_reducible apply O2);rfl)|((with_reducible apply P1);rfl)|((with_reducible apply P2);rfl)|((with_reducible apply P3);rfl)|((with_reducible apply P4);rfl)|((with_reducible apply P5);rfl));(simp (disch:=omega) [rd_old _ hid, hx];exact Red.rfl);exact Red.rfl;(focus (first|(simp;done)|omega|(simp;omega))))|((with_reducible first|apply Z7|apply Z8|apply Z9);(simp (disch:=omega) [rd_old _ hid, hx];exact Red.rfl))|((with_reducible first|apply Z1|apply Z2|apply Z3|apply Z4|apply Z5|apply Z6);(simp (disch:=omega) [rd_old _ hid, hx];exact Red.rfl))|((with_reducible first|apply W1|apply W2|apply W3);(simp (disch:=omega) [rd_old _ hid, hx];exact Red.rfl))|((with_reducible apply P6);rfl;(simp (disch:=omega) [rd_old _ hid, hx];exact Red.rfl);exact Red.rfl;(focus (first|(simp [pr];done)|(simp [pr];omega))))|((with_reducible apply P7);rfl;(simp (disch:=omega) [rd_old _ hid, hx];exact Red.rfl);exact Red.rfl;(focus (simp [repast, pr, AOp.sem];done))))
        refine q_again ⟨k + 1, by omega, fun j hj => ?_⟩ (by dsimp only; omega) (.inr <| le_take (G := [_]) (by simp) (by simp [hid, Red]; omega))
        rcases Nat.lt_or_ge j k with h | h
        · exact hk2 j h
        · obtain rfl : j = k := by omega
          simp [steepB]
      · have hki' : ¬ (k : Int) = i := by omega
        repeat (first|(with_reducible first|apply X1|apply X2|apply X3|apply X4|apply X5|apply X6|apply X7|apply X8|apply X9|apply Y1|apply Y2|apply Y3|apply Y4|apply Y5|apply Y6|apply Y7|apply Y8|apply Y9)|((with_reducible apply q_block_other);decide)|((with_reducible first|apply e_end|apply d_end);(simp;exact Red.rfl))|((first|((with_reducible apply O1);rfl)|((with_reducible apply O2);rfl)|((with_reducible apply P1);rfl)|((with_reducible apply P2);rfl)|((with_reducible apply P3);rfl)|((with_reducible apply P4);rfl)|((with_reducible apply P5);rfl));(simp (disch:=omega) [rd_old _ hid, hx, hki, hki'];exact Red.rfl);exact Red.rfl;(focus (first|(simp;done)|omega|(simp;omega))))|((with_reducible first|apply Z7|apply Z8|apply Z9);(simp (disch:=omega) [rd_old _ hid, hx, hki, hki'];exact Red.rfl))|((with_reducible first|apply Z1|apply Z2|apply Z3|apply Z4|apply Z5|apply Z6);(simp (disch:=omega) [rd_old _ hid, hx, hki, hki'];exact Red.rfl))|((with_reducible first|apply W1|apply W2|apply W3);(simp (disch:=omega) [rd_old _ hid, hx, hki, hki'];exact Red.rfl))|((with_reducible apply P6);rfl;(simp (disch:=omega) [rd_old _ hid, hx, hki, hki'];exact Red.rfl);exact Red.rfl;(focus (first|(simp [pr];done)|(simp [pr];omega))))|((with_reducible apply P7);rfl;(simp (disch:=omega) [rd_old _ hid, hx, hki, hki'];exact Red.rfl);exact Red.rfl;(focus (simp [repast, pr, AOp.sem];done))))
        (with_reducible apply e_dec); (simp; exact Red.rfl)
        · intro hc
          repeat (first|(with_reducible first|apply X1|apply X2|apply X3|apply X4|apply X5|apply X6|apply X7|apply X8|apply X9|apply Y1|apply Y2|apply Y3|apply Y4|apply Y5|apply Y6|apply Y7|apply Y8|apply Y9)|((with_reducible apply q_block_other);decide)|((with_reducible first|apply e_end|apply d_end);(simp;exact Red.rfl))|((first|((with_reducible apply O1);rfl)|((with_reducible apply O2);rfl)|((with_reducible apply P1);rfl)|((with_reducible apply P2);rfl)|((with_reducible apply P3);rfl)|((with_reducible apply P4);rfl)|((with_reducible apply P5);rfl));(simp (disch:=omega);exact Red.rfl);exact Red.rfl;(focus (first|(simp;done)|omega|(simp;omega))))|((with_reducible first|apply Z7|apply Z8|apply Z9);(simp (disch:=omega);exact Red.rfl))|((with_reducible first|apply Z1|apply Z2|apply Z3|apply Z4|apply Z5|apply Z6);(simp (disch:=omega);exact Red.rfl))|((with_reducible first|apply W1|apply W2|apply W3);(simp (disch:=omega);exact Red.rfl))|((with_reducible apply P6);rfl;(simp (disch:=omega);exact Red.rfl);exact Red.rfl;(focus (first|(simp [pr];done)|(simp [pr];omega))))|((with_reducible apply P7);rfl;(simp (disch:=omega);exact Red.rfl);exact Red.rfl;(focus (simp [repast, pr, AOp.sem];done))))
          refine q_drop (.inr rfl) (by simp; exact Red.rfl) (by simp) ⟨rfl, false, rfl, ?_⟩
          simp only [Bool.false_eq_true, false_iff]
          intro hall
          exact hall k hlt ⟨hki, by rw [hst]; exact hc⟩
        · intro hc
          repeat (first|(with_reducible first|apply X1|apply X2|apply X3|apply X4|apply X5|apply X6|apply X7|apply X8|apply X9|apply Y1|apply Y2|apply Y3|apply Y4|apply Y5|apply Y6|apply Y7|apply Y8|apply Y9)|((with_reducible apply q_block_other);decide)|((with_reducible first|apply e_end|apply d_end);(simp;exact Red.rfl))|((first|((with_reducible apply O1);rfl)|((with_reducible apply O2);rfl)|((with_reducible apply P1);rfl)|((with_reducible apply P2);rfl)|((with_reducible apply P3);rfl)|((with_reducible apply P4);rfl)|((with_reducible apply P5);rfl));(simp (disch:=omega);exact Red.rfl);exact Red.rfl;(focus (first|(simp;done)|omega|(simp;omega))))|((with_reducible first|apply Z7|apply Z8|apply Z9);(simp (disch:=omega);exact Red.rfl))|((with_reducible first|apply Z1|apply Z2|apply Z3|apply Z4|apply Z5|apply Z6);(simp (disch:=omega);exact Red.rfl))|((with_reducible first|apply W1|apply W2|apply W3);(simp (disch:=omega);exact Red.rfl))|((with_reducible apply P6);rfl;(simp (disch:=omega);exact Red.rfl);exact Red.rfl;(focus (first|(simp [pr];done)|(simp [pr];omega))))|((with_reducible apply P7);rfl;(simp (disch:=omega);exact Red.rfl);exact Red.rfl;(focus (simp [repast, pr, AOp.sem];done))))
          refine q_again ⟨k + 1, by omega, fun j hj => ?_⟩ (by dsimp only; omega) (.inr <| le_take (G := [_]) (by simp) (by simp [hid, Red]; omega))
          rcases Nat.lt_or_ge j k with h | h
          · exact hk2 j h
          · obtain rfl : j = k := by omega
            rintro ⟨_, h2⟩; rw [hst] at h2; exact hc h2
    · intro hge
      repeat (first|(with_reducible first|apply X1|apply X2|apply X3|apply X4|apply X5|apply X6|apply X7|apply X8|apply X9|apply Y1|apply Y2|apply Y3|apply Y4|apply Y5|apply Y6|apply Y7|apply Y8|apply Y9)|((with_reducible apply q_block_other);decide)|((with_reducible first|apply e_end|apply d_end);(simp;exact Red.rfl))|((first|((with_reducible apply O1);rfl)|((with_reducible apply O2);rfl)|((with_reducible apply P1);rfl)|((with_reducible apply P2);rfl)|((with_reducible apply P3);rfl)|((with_reducible apply P4);rfl)|((with_reducible apply P5);rfl));(simp (disch:=omega);exact Red.rfl);exact Red.rfl;(focus (first|(simp;done)|omega|(simp;omega))))|((with_reducible first|apply Z7|apply Z8|apply Z9);(simp (disch:=omega);exact Red.rfl))|((with_reducible first|apply Z1|apply Z2|apply Z3|apply Z4|apply Z5|apply Z6);(simp (disch:=omega);exact Red.rfl))|((with_reducible first|apply W1|apply W2|apply W3);(simp (disch:=omega);exact Red.rfl))|((with_reducible apply P6);rfl;(simp (disch:=omega);exact Red.rfl);exact Red.rfl;(focus (first|(simp [pr];done)|(simp [pr];omega))))|((with_reducible apply P7);rfl;(simp (disch:=omega);exact Red.rfl);exact Red.rfl;(focus (simp [repast, pr, AOp.sem];done))))
      refine q_drop (.inr rfl) (by simp; exact Red.rfl) (by simp) ⟨rfl, true, rfl, ?_⟩
      simp only [true_iff]
      intro k' hk'
      exact hk2 k' (by omega)
end Go.Proofs
/- Contracts: what is picked, and the steepest. -/
namespace Go.Proofs
open Go.Abs
attribute [local simp] AOp.den AOpd.ev lk cellsOf rd_new rd_new0 rd_zero rd_succ wr_new wr_new0 wr_zero wr_succ splice fillA binA scal sliceCells List.length_append argsT AV.sc scL AObj.sc resV getAll AR.get AOp.slots opdSlots opdsSlots partSlots eqAt wrap64
set_option linter.unusedSimpArgs false
set_option linter.unusedVariables false

def selB (l : List Str) (i : Nat) : Bool := (List.range l.length).all fun k => !(decide (k ≠ i ∧ (strAt l i).fHi * (strAt l k).lHi < (strAt l k).fLo * (strAt l i).lLo))
theorem selB_iff {l : List Str} {i : Nat} (hi : i < l.length) : selB l i = true ↔ ∀ k, k < l.length → ¬ steepB l i l[i] k := by
  simp only [selB, List.all_eq_true, List.mem_range, Bool.not_eq_true', decide_eq_false_iff_not, steepB, strAt_eq hi]
def ksF (l : List Str) (n : Nat) : List Nat := (List.range n).filter (selB l)
theorem ksF_succ (l : List Str) (n : Nat) : ksF l (n + 1) = if selB l n = true then ksF l n ++ [n] else ksF l n := by
  simp only [ksF, List.range_succ, List.filter_append, List.filter_cons, List.filter_nil]
  split <;> simp
def avN (xs : List Nat) : List AV := xs.map fun k : Nat => .int .i64 (k : Int)
def pkV (n : Nat) : List Nat → AV
  | [] => .nilslice
  | a :: r => .slice n 0 (a :: r).length 1 false
def pkH (H : Heap) : List Nat → Heap
  | [] => H
  | a :: r => H ++ [.cells (avN (a :: r)) true]

theorem pkV_nil (n : Nat) : pkV n [] = .nilslice := rfl
theorem pkV_cons (n a : Nat) (r : List Nat) : pkV n (a :: r) = .slice n 0 (r.length + 1) 1 false := rfl
theorem pkH_nil (H : Heap) : pkH H [] = H := rfl
theorem pkH_cons (H : Heap) (a : Nat) (r : List Nat) : pkH H (a :: r) = H ++ [.cells (avN (a :: r)) true] := rfl
theorem avN_length (xs : List Nat) : (avN xs).length = xs.length := by simp [avN]
theorem avN_take (a : Nat) (r : List Nat) : (avN (a :: r)).take (r.length + 1) = avN (a :: r) := List.take_of_length_le (by simp [avN_length])
theorem avN_app (xs : List Nat) (k : Nat) : avN xs ++ [.int .i64 (k : Int)] = avN (xs ++ [k]) := by simp [avN]
theorem avN_sc (m : Nat) : ∀ xs : List Nat, scL m (avN xs) = true
  | [] => rfl
  | a :: r => by simpa [avN, scL, AV.sc] using avN_sc m r
theorem avN_ren (ρ : Nat → Nat) : ∀ xs : List Nat, renL ρ (avN xs) = avN xs
  | [] => rfl
  | a :: r => by simpa [avN, renL, AV.ren] using avN_ren ρ r
/-- One of the new objects stays, with numbers only. -/
theorem le_keep1 {H G : Heap} {t t' : List (Nat × AV)} (p : Nat) {xs : List Nat} (hp : G[p]? = some (.cells (avN xs) true))
    (hv : ∀ x ∈ t', x.2.sc (H.length + 1) = true ∧ lk t x.1 = x.2.ren (sh H.length [p])) : Le H ⟨t, H ++ G⟩ ⟨t', H ++ [.cells (avN xs) true]⟩ := by
  refine le_keep [p] rfl (by simp) ?_ hv
  intro k r o h1 h2
  rcases k with _ | k
  · simp at h1 h2; subst h1; subst h2
    exact .inr ⟨by simp [AObj.sc, avN_sc], by simp [AObj.ren, avN_ren, hp]⟩
  · simp at h1

theorem c_pick (H : Heap) (l : List Str) (id off tid : Nat) (ex : Bool) (hs : rd H id off (l.length * 9) = some (l.flatMap Str.av)) (hv : validL l)
    (ht : rd H tid 0 1 = some [.slice id off l.length 9 ex]) :
    ACalls Try.prog F.track_pick_api_Stretch [.slice id off l.length 9 ex, .fn (.func F.track_Steepest_1) [] [.ptr tid 0]] H (fun v h' => v = pkV H.length (ksF l l.length) ∧ h' = pkH H (ksF l l.length)) := by
  refine acalls_of ok_track_pick_api_Stretch rfl fun hcl => ?_
  unfold ac_track_pick_api_Stretch
  simp only [argsT, Nat.zero_add, Nat.reduceAdd]
  have hid := rd_lt hs
  have htid := rd_lt ht
  have h12 := hv.1
  repeat (first|(with_reducible first|apply X1|apply X2|apply X3|apply X4|apply X5|apply X6|apply X7|apply X8|apply X9|apply Y1|apply Y2|apply Y3|apply Y4|apply Y5|apply Y6|apply Y7|apply Y8|apply Y9)|((with_reducible apply q_block_other);decide)|((with_reducible first|apply e_end|apply d_end);(simp;exact Red.rfl))|((first|((with_reducible apply O1);rfl)|((with_reducible apply O2);rfl)|((with_reducible apply P1);rfl)|((with_reducible apply P2);rfl)|((with_reducible apply P3);rfl)|((with_reducible apply P4);rfl)|((with_reducible apply P5);rfl));(simp (disch:=omega);exact Red.rfl);exact Red.rfl;(focus (first|(simp;done)|omega|(simp;omega))))|((with_reducible first|apply Z7|apply Z8|apply Z9);(simp (disch:=omega);exact Red.rfl))|((with_reducible first|apply Z1|apply Z2|apply Z3|apply Z4|apply Z5|apply Z6);(simp (disch:=omega);exact Red.rfl))|((with_reducible first|apply W1|apply W2|apply W3);(simp (disch:=omega);exact Red.rfl))|((with_reducible apply P6);rfl;(simp (disch:=omega);exact Red.rfl);exact Red.rfl;(focus (first|(simp [pr];done)|(simp [pr];omega))))|((with_reducible apply P7);rfl;(simp (disch:=omega);exact Red.rfl);exact Red.rfl;(focus (simp [repast, pr, AOp.sem];done))))
  refine e_loop (ι := { k : Nat // k ≤ l.length })
    (fun k => [(1, .fn (.func F.track_Steepest_1) [] [.ptr tid 0]), (5, pkV H.length (ksF l k.1)), (8, .slice id off l.length 9 ex), (9, .int .i64 l.length), (10, .int .i64 k.1)])
    (fun k => pkH H (ksF l k.1)) (fun k => l.length - k.1) ⟨0, by simp⟩ ?_ ?_
  · exact .inr <| le_id (by simp [hid, htid, ksF, pkV])
  · rintro ⟨k, hk⟩
    dsimp only
    by_cases hlt : k < l.length
    · have hlt2 : (k : Int) < l.length := by omega
      have hx := rd_row Str.av_length hs hlt
      have hsel := selB_iff hlt
      have hks := ksF_succ l k
      generalize hsi : l[k] = s at hx hsel
      have hcall := fun G (h1 : rd G id off (l.length * 9) = some (l.flatMap Str.av)) (h2 : rd G tid 0 1 = some [.slice id off l.length 9 ex]) => c_steep1 G l id off k tid ex h1 hv hlt h2
      simp only [hsi] at hcall
      obtain ⟨a1, a2, a3, a4, a5, a6, a7, a8, a9⟩ := s
      simp only [Str.av] at hx hcall
      rcases hkk : ksF l k with _ | ⟨a, r⟩
      · rw [hkk] at hks
        simp only [pkV_nil, pkH_nil]
        repeat (first|(with_reducible first|apply X1|apply X2|apply X3|apply X4|apply X5|apply X6|apply X7|apply X8|apply X9|apply Y1|apply Y2|apply Y3|apply Y4|apply Y5|apply Y6|apply Y7|apply Y8|apply Y9)|((with_reducible apply q_block_other);decide)|((with_reducible first|apply e_end|apply d_end);(simp;exact Red.rfl))|((first|((with_reducible apply O1);rfl)|((with_reducible apply O2);rfl)|((with_reducible apply P1);rfl)|((with_reducible apply P2);rfl)|((with_reducible apply P3);rfl)|((with_reducible apply P4);rfl)|((with_reducible apply P5);rfl));(simp (disch:=omega) [rd_old _ hid, hx, hlt2, hlt];exact Red.rfl);exact Red.rfl;(focus (first|(simp;done)|omega|(simp;omega))))|((with_reducible first|apply Z7|apply Z8|apply Z9);(simp (disch:=omega) [rd_old _ hid, hx, hlt2, hlt];exact Red.rfl))|((with_reducible first|apply Z1|apply Z2|apply Z3|apply Z4|apply Z5|apply Z6);(simp (disch:=omega) [rd_old _ hid, hx, hlt2, hlt];exact Red.rfl))|((with_reducible first|apply W1|apply W2|apply W3);(simp (disch:=omega) [rd_old _ hid, hx, hlt2, hlt];exact Red.rfl))|((with_reducible apply P6);rfl;(simp (disch:=omega) [rd_old _ hid, hx, hlt2, hlt];exact Red.rfl);exact Red.rfl;(focus (first|(simp [pr];done)|(simp [pr];omega))))|((with_reducible apply P7);rfl;(simp (disch:=omega) [rd_old _ hid, hx, hlt2, hlt];exact Red.rfl);exact Red.rfl;(focus (simp [repast, pr, AOp.sem];done))))
        (with_reducible apply e_callV); (simp; exact Red.rfl); (simp; exact Red.rfl); exact hcall _ (by rw [rd_old _ hid]; exact hs) (by rw [rd_old _ htid]; exact ht)
        rintro _ _ ⟨rfl, b, rfl, hb⟩
        have hbs : selB l k = b := by rw [Bool.eq_iff_iff, hb, hsel]
        rw [hbs] at hks
        cases b with
        | true =>
          simp only [if_true, List.nil_append] at hks
          repeat (first|(with_reducible first|apply X1|apply X2|apply X3|apply X4|apply X5|apply X6|apply X7|apply X8|apply X9|apply Y1|apply Y2|apply Y3|apply Y4|apply Y5|apply Y6|apply Y7|apply Y8|apply Y9)|((with_reducible apply q_block_other);decide)|((with_reducible first|apply e_end|apply d_end);(simp;exact Red.rfl))|((first|((with_reducible apply O1);rfl)|((with_reducible apply O2);rfl)|((with_reducible apply P1);rfl)|((with_reducible apply P2);rfl)|((with_reducible apply P3);rfl)|((with_reducible apply P4);rfl)|((with_reducible apply P5);rfl));(simp (disch:=omega);exact Red.rfl);exact Red.rfl;(focus (first|(simp;done)|omega|(simp;omega))))|((with_reducible first|apply Z7|apply Z8|apply Z9);(simp (disch:=omega);exact Red.rfl))|((with_reducible first|apply Z1|apply Z2|apply Z3|apply Z4|apply Z5|apply Z6);(simp (disch:=omega);exact Red.rfl))|((with_reducible first|apply W1|apply W2|apply W3);(simp (disch:=omega);exact Red.rfl))|((with_reducible apply P6);rfl;(simp (disch:=omega);exact Red.rfl);exact Red.rfl;(focus (first|(simp [pr];done)|(simp [pr];omega))))|((with_reducible apply P7);rfl;(simp (disch:=omega);exact Red.rfl);exact Red.rfl;(focus (simp [repast, pr, AOp.sem];done))))
          refine q_again ⟨k + 1, by omega⟩ (by dsimp only; omega) (.inr ?_)
          dsimp only
          rw [hks]
          simp only [pkV_cons, pkH_cons]
          exact le_keep1 2 (by simp [avN]) (by simp [sh, hid, htid, AV.ren, renL]; omega)
        | false =>
          simp only [Bool.false_eq_true, if_false] at hks
          repeat (first|(with_reducible first|apply X1|apply X2|apply X3|apply X4|apply X5|apply X6|apply X7|apply X8|apply X9|apply Y1|apply Y2|apply Y3|apply Y4|apply Y5|apply Y6|apply Y7|apply Y8|apply Y9)|((with_reducible apply q_block_other);decide)|((with_reducible first|apply e_end|apply d_end);(simp;exact Red.rfl))|((first|((with_reducible apply O1);rfl)|((with_reducible apply O2);rfl)|((with_reducible apply P1);rfl)|((with_reducible apply P2);rfl)|((with_reducible apply P3);rfl)|((with_reducible apply P4);rfl)|((with_reducible apply P5);rfl));(simp (disch:=omega);exact Red.rfl);exact Red.rfl;(focus (first|(simp;done)|omega|(simp;omega))))|((with_reducible first|apply Z7|apply Z8|apply Z9);(simp (disch:=omega);exact Red.rfl))|((with_reducible first|apply Z1|apply Z2|apply Z3|apply Z4|apply Z5|apply Z6);(simp (disch:=omega);exact Red.rfl))|((with_reducible first|apply W1|apply W2|apply W3);(simp (disch:=omega);exact Red.rfl))|((with_reducible apply P6);rfl;(simp (disch:=omega);exact Red.rfl);exact Red.rfl;(focus (first|(simp [pr];done)|(simp [pr];omega))))|((with_reducible apply P7);rfl;(simp (disch:=omega);exact Red.rfl);exact Red.rfl;(focus (simp [repast, pr, AOp.sem];done))))
          refine q_again ⟨k + 1, by omega⟩ (by dsimp only; omega) (.inr ?_)
          dsimp only
          rw [hks]
          simp only [pkV_nil, pkH_nil]
          exact le_drop (by simp [hid, htid])
      · rw [hkk] at hks
        simp only [pkV_cons, pkH_cons]
        have hal : (avN (a :: r)).all scal = true := by simp [avN, scal]
        have hrl : r.length + 1 ≤ 12 := by
          have := List.length_filter_le (selB l) (List.range k)
          have h2 : (ksF l k).length = r.length + 1 := by rw [hkk]; rfl
          simp only [ksF] at h2
          simp at this
          omega
        repeat (first|(with_reducible first|apply X1|apply X2|apply X3|apply X4|apply X5|apply X6|apply X7|apply X8|apply X9|apply Y1|apply Y2|apply Y3|apply Y4|apply Y5|apply Y6|apply Y7|apply Y8|apply Y9)|((with_reducible apply q_block_other);decide)|((with_reducible first|apply e_end|apply d_end);(simp;exact Red.rfl))|((first|((with_reducible apply O1);rfl)|((with_reducible apply O2);rfl)|((with_reducible apply P1);rfl)|((with_reducible apply P2);rfl)|((with_reducible apply P3);rfl)|((with_reducible apply P4);rfl)|((with_reducible apply P5);rfl));(simp (disch:=omega) [rd_old _ hid, hx, hlt2, hlt];exact Red.rfl);exact Red.rfl;(focus (first|(simp;done)|omega|(simp;omega))))|((with_reducible first|apply Z7|apply Z8|apply Z9);(simp (disch:=omega) [rd_old _ hid, hx, hlt2, hlt];exact Red.rfl))|((with_reducible first|apply Z1|apply Z2|apply Z3|apply Z4|apply Z5|apply Z6);(simp (disch:=omega) [rd_old _ hid, hx, hlt2, hlt];exact Red.rfl))|((with_reducible first|apply W1|apply W2|apply W3);(simp (disch:=omega) [rd_old _ hid, hx, hlt2, hlt];exact Red.rfl))|((with_reducible apply P6);rfl;(simp (disch:=omega) [rd_old _ hid, hx, hlt2, hlt];exact Red.rfl);exact Red.rfl;(focus (first|(simp [pr];done)|(simp [pr];omega))))|((with_reducible apply P7);rfl;(simp (disch:=omega) [rd_old _ hid, hx, hlt2, hlt];exact Red.rfl);exact Red.rfl;(focus (simp [repast, pr, AOp.sem];done))))
        (with_reducible apply e_callV); (simp; exact Red.rfl); (simp; exact Red.rfl); exact hcall _ (by rw [rd_old _ hid]; exact hs) (by rw [rd_old _ htid]; exact ht)
        rintro _ _ ⟨rfl, b, rfl, hb⟩
        have hbs : selB l k = b := by rw [Bool.eq_iff_iff, hb, hsel]
        rw [hbs] at hks
        cases b with
        | true =>
          simp only [if_true, List.cons_append] at hks
          repeat (first|(with_reducible first|apply X1|apply X2|apply X3|apply X4|apply X5|apply X6|apply X7|apply X8|apply X9|apply Y1|apply Y2|apply Y3|apply Y4|apply Y5|apply Y6|apply Y7|apply Y8|apply Y9)|((with_reducible apply q_block_other);decide)|((with_reducible first|apply e_end|apply d_end);(simp;exact Red.rfl))|((first|((with_reducible apply O1);rfl)|((with_reducible apply O2);rfl)|((with_reducible apply P1);rfl)|((with_reducible apply P2);rfl)|((with_reducible apply P3);rfl)|((with_reducible apply P4);rfl)|((with_reducible apply P5);rfl));(simp (disch:=omega) [avN_length, avN_take, at_new0, at_new, set_new0, set_new];exact Red.rfl);exact Red.rfl;(focus (first|(simp;done)|omega|(simp;omega))))|((with_reducible first|apply Z7|apply Z8|apply Z9);(simp (disch:=omega) [avN_length, avN_take, at_new0, at_new, set_new0, set_new];exact Red.rfl))|((with_reducible first|apply Z1|apply Z2|apply Z3|apply Z4|apply Z5|apply Z6);(simp (disch:=omega) [avN_length, avN_take, at_new0, at_new, set_new0, set_new];exact Red.rfl))|((with_reducible first|apply W1|apply W2|apply W3);(simp (disch:=omega) [avN_length, avN_take, at_new0, at_new, set_new0, set_new];exact Red.rfl))|((with_reducible apply P6);rfl;(simp (disch:=omega) [avN_length, avN_take, at_new0, at_new, set_new0, set_new];exact Red.rfl);exact Red.rfl;(focus (first|(simp [pr];done)|(simp [pr];omega))))|((with_reducible apply P7);rfl;(simp (disch:=omega) [avN_length, avN_take, at_new0, at_new, set_new0, set_new];exact Red.rfl);exact Red.rfl;(focus (simp [repast, pr, AOp.sem];done))))
          refine q_again ⟨k + 1, by omega⟩ (by dsimp only; omega) (.inr ?_)
          dsimp only
          rw [hks, avN_app]
          simp only [pkV_cons, pkH_cons]
          exact le_keep1 3 (by simp) (by simp [sh, hid, htid, AV.ren, renL]; omega)
        | false =>
          simp only [Bool.false_eq_true, if_false] at hks
          repeat (first|(with_reducible first|apply X1|apply X2|apply X3|apply X4|apply X5|apply X6|apply X7|apply X8|apply X9|apply Y1|apply Y2|apply Y3|apply Y4|apply Y5|apply Y6|apply Y7|apply Y8|apply Y9)|((with_reducible apply q_block_other);decide)|((with_reducible first|apply e_end|apply d_end);(simp;exact Red.rfl))|((first|((with_reducible apply O1);rfl)|((with_reducible apply O2);rfl)|((with_reducible apply P1);rfl)|((with_reducible apply P2);rfl)|((with_reducible apply P3);rfl)|((with_reducible apply P4);rfl)|((with_reducible apply P5);rfl));(simp (disch:=omega);exact Red.rfl);exact Red.rfl;(focus (first|(simp;done)|omega|(simp;omega))))|((with_reducible first|apply Z7|apply Z8|apply Z9);(simp (disch:=omega);exact Red.rfl))|((with_reducible first|apply Z1|apply Z2|apply Z3|apply Z4|apply Z5|apply Z6);(simp (disch:=omega);exact Red.rfl))|((with_reducible first|apply W1|apply W2|apply W3);(simp (disch:=omega);exact Red.rfl))|((with_reducible apply P6);rfl;(simp (disch:=omega);exact Red.rfl);exact Red.rfl;(focus (first|(simp [pr];done)|(simp [pr];omega))))|((with_reducible apply P7);rfl;(simp (disch:=omega);exact Red.rfl);exact Red.rfl;(focus (simp [repast, pr, AOp.sem];done))))
          refine q_again ⟨k + 1, by omega⟩ (by dsimp only; omega) (.inr ?_)
          dsimp only
          rw [hks]
          simp only [pkV_cons, pkH_cons]
          exact le_take (G := [_]) (by simp [avN_sc]) (by simp [hid, htid, Red]; omega)
    · have hlt2 : ¬ (k : Int) < l.length := by omega
      obtain rfl : k = l.length := by omega
      repeat (first|(with_reducible first|apply X1|apply X2|apply X3|apply X4|apply X5|apply X6|apply X7|apply X8|apply X9|apply Y1|apply Y2|apply Y3|apply Y4|apply Y5|apply Y6|apply Y7|apply Y8|apply Y9)|((with_reducible apply q_block_other);decide)|((with_reducible first|apply e_end|apply d_end);(simp;exact Red.rfl))|((first|((with_reducible apply O1);rfl)|((with_reducible apply O2);rfl)|((with_reducible apply P1);rfl)|((with_reducible apply P2);rfl)|((with_reducible apply P3);rfl)|((with_reducible apply P4);rfl)|((with_reducible apply P5);rfl));(simp (disch:=omega) [hlt2];exact Red.rfl);exact Red.rfl;(focus (first|(simp;done)|omega|(simp;omega))))|((with_reducible first|apply Z7|apply Z8|apply Z9);(simp (disch:=omega) [hlt2];exact Red.rfl))|((with_reducible first|apply Z1|apply Z2|apply Z3|apply Z4|apply Z5|apply Z6);(simp (disch:=omega) [hlt2];exact Red.rfl))|((with_reducible first|apply W1|apply W2|apply W3);(simp (disch:=omega) [hlt2];exact Red.rfl))|((with_reducible apply P6);rfl;(simp (disch:=omega) [hlt2];exact Red.rfl);exact Red.rfl;(focus (first|(simp [pr];done)|(simp [pr];omega))))|((with_reducible apply P7);rfl;(simp (disch:=omega) [hlt2];exact Red.rfl);exact Red.rfl;(focus (simp [repast, pr, AOp.sem];done))))
      exact q_stay (.inr rfl) (by simp; exact Red.rfl) ⟨rfl, rfl⟩
end Go.Proofs
/- Contracts: the steepest. -/
namespace Go.Proofs
open Go.Abs
attribute [local simp] AOp.den AOpd.ev lk cellsOf rd_new rd_new0 rd_zero rd_succ wr_new wr_new0 wr_zero wr_succ splice fillA binA scal sliceCells List.length_append argsT AV.sc scL AObj.sc resV getAll AR.get AOp.slots opdSlots opdsSlots partSlots eqAt wrap64
set_option linter.unusedSimpArgs false
set_option linter.unusedVariables false

theorem best (f g : Nat → Int) (hg : ∀ k, 1 ≤ g k) : ∀ n, 0 < n → ∃ i, i < n ∧ ∀ k, k < n → f k * g i ≤ f i * g k
  | 0, h => absurd h (by omega)
  | 1, _ => ⟨0, by omega, fun k hk => by obtain rfl : k = 0 := by omega
                                         exact Int.le_refl _⟩
  | n + 2, _ => by
    obtain ⟨i, hi, hb⟩ := best f g hg (n + 1) (by omega)
    by_cases h : f (n + 1) * g i ≤ f i * g (n + 1)
    · refine ⟨i, by omega, fun k hk => ?_⟩
      rcases Nat.lt_or_ge k (n + 1) with h2 | h2
      · exact hb k h2
      · obtain rfl : k = n + 1 := by omega
        exact h
    · refine ⟨n + 1, by omega, fun k hk => ?_⟩
      rcases Nat.lt_or_ge k (n + 1) with h2 | h2
      · have h3 := hb k h2
        have h4 : f i * g (n + 1) ≤ f (n + 1) * g i := by omega
        have h5 := Int.mul_le_mul_of_nonneg_right h3 (show 0 ≤ g (n + 1) by have := hg (n + 1); omega)
        have h6 := Int.mul_le_mul_of_nonneg_right h4 (show 0 ≤ g k by have := hg k; omega)
        have e1 : f i * g k * g (n + 1) = f i * g (n + 1) * g k := by rw [Int.mul_assoc, Int.mul_comm (g k), ← Int.mul_assoc]
        have e2 : f k * g i * g (n + 1) = f k * g (n + 1) * g i := by rw [Int.mul_assoc, Int.mul_comm (g i), ← Int.mul_assoc]
        have e3 : f (n + 1) * g i * g k = f (n + 1) * g k * g i := by rw [Int.mul_assoc, Int.mul_comm (g i), ← Int.mul_assoc]
        have h7 : f k * g (n + 1) * g i ≤ f (n + 1) * g k * g i := by omega
        exact Int.le_of_mul_le_mul_right h7 (show 0 < g i by have := hg i; omega)
      · obtain rfl : k = n + 1 := by omega
        exact Int.le_refl _

theorem strAt_ok {l : List Str} (hv : validL l) {k : Nat} (hk : k < l.length) : (strAt l k).ok := by
  rw [strAt_eq hk]; exact valid_str hv hk

theorem ksF_ne {l : List Str} (hv : validL l) : ∃ a r, ksF l l.length = a :: r := by
  obtain ⟨i, hi, hb⟩ := best (fun k => (strAt l k).fHi) (fun k => if k < l.length then (strAt l k).lLo else 1) (fun k => by
    show 1 ≤ (if k < l.length then (strAt l k).lLo else 1)
    split
    · exact (strAt_ok hv (by assumption)).2.2.1.2.1
    · omega) l.length (by have := hv.1; omega)
  have hsel : selB l i = true := by
    simp only [selB, List.all_eq_true, List.mem_range, Bool.not_eq_true', decide_eq_false_iff_not]
    rintro k hk ⟨_, hlt⟩
    have h1 := hb k hk
    simp only [hi, hk, if_true] at h1
    have oi := strAt_ok hv hi
    have ok := strAt_ok hv hk
    simp only [Str.ok] at oi ok
    have h2 : (strAt l k).fLo * (strAt l i).lLo ≤ (strAt l k).fHi * (strAt l i).lLo := Int.mul_le_mul_of_nonneg_right (by omega) (by omega)
    have h3 : (strAt l i).fHi * (strAt l k).lLo ≤ (strAt l i).fHi * (strAt l k).lHi := Int.mul_le_mul_of_nonneg_left (by omega) (by omega)
    omega
  have hm : i ∈ ksF l l.length := by simp [ksF, hi, hsel]
  cases h : ksF l l.length with
  | nil => rw [h] at hm; simp at hm
  | cons a r => exact ⟨a, r, rfl⟩

theorem c_Steepest (H : Heap) (l : List Str) (id off : Nat) (ex : Bool) (hs : rd H id off (l.length * 9) = some (l.flatMap Str.av)) (hv : validL l) :
    ACalls Try.prog F.track_Steepest [.agg [.slice id off l.length 9 ex]] H (fun v h' => v = .tuple [.slice H.length 0 (ksF l l.length).length 1 false, .int .i64 0] ∧ h' = H ++ [.cells (avN (ksF l l.length)) true]) := by
  refine acalls_of ok_track_Steepest rfl fun hcl => ?_
  unfold ac_track_Steepest
  simp only [argsT, Nat.zero_add, Nat.reduceAdd]
  have hid := rd_lt hs
  have h12 := hv.1
  repeat (first|(with_reducible first|apply X1|apply X2|apply X3|apply X4|apply X5|apply X6|apply X7|apply X8|apply X9|apply Y1|apply Y2|apply Y3|apply Y4|apply Y5|apply Y6|apply Y7|apply Y8|apply Y9)|((with_reducible apply q_block_other);decide)|((with_reducible first|apply e_end|apply d_end);(simp;exact Red.rfl))|((first|((with_reducible apply O1);rfl)|((with_reducible apply O2);rfl)|((with_reducible apply P1);rfl)|((with_reducible apply P2);rfl)|((with_reducible apply P3);rfl)|((with_reducible apply P4);rfl)|((with_reducible apply P5);rfl));(simp (disch:=omega);exact Red.rfl);exact Red.rfl;(focus (first|(simp;done)|omega|(simp;omega))))|((with_reducible first|apply Z7|apply Z8|apply Z9);(simp (disch:=omega);exact Red.rfl))|((with_reducible first|apply Z1|apply Z2|apply Z3|apply Z4|apply Z5|apply Z6);(simp (disch:=omega);exact Red.rfl))|((with_reducible first|apply W1|apply W2|apply W3);(simp (disch:=omega);exact Red.rfl))|((with_reducible apply P6);rfl;(simp (disch:=omega);exact Red.rfl);exact Red.rfl;(focus (first|(simp [pr];done)|(simp [pr];omega))))|((with_reducible apply P7);rfl;(simp (disch:=omega);exact Red.rfl);exact Red.rfl;(focus (simp [repast, pr, AOp.sem];done))))
  (with_reducible apply e_call); (simp; exact Red.rfl); exact c_Check _ l id off ex (by rw [rd_old _ hid]; exact hs) (by omega)
  rintro _ _ ⟨rfl, e, rfl, he⟩
  obtain rfl : e = 0 := by
    rcases he with h | h
    · exact h.2
    · exact absurd hv h.1
  repeat (first|(with_reducible first|apply X1|apply X2|apply X3|apply X4|apply X5|apply X6|apply X7|apply X8|apply X9|apply Y1|apply Y2|apply Y3|apply Y4|apply Y5|apply Y6|apply Y7|apply Y8|apply Y9)|((with_reducible apply q_block_other);decide)|((with_reducible first|apply e_end|apply d_end);(simp;exact Red.rfl))|((first|((with_reducible apply O1);rfl)|((with_reducible apply O2);rfl)|((with_reducible apply P1);rfl)|((with_reducible apply P2);rfl)|((with_reducible apply P3);rfl)|((with_reducible apply P4);rfl)|((with_reducible apply P5);rfl));(simp (disch:=omega);exact Red.rfl);exact Red.rfl;(focus (first|(simp;done)|omega|(simp;omega))))|((with_reducible first|apply Z7|apply Z8|apply Z9);(simp (disch:=omega);exact Red.rfl))|((with_reducible first|apply Z1|apply Z2|apply Z3|apply Z4|apply Z5|apply Z6);(simp (disch:=omega);exact Red.rfl))|((with_reducible first|apply W1|apply W2|apply W3);(simp (disch:=omega);exact Red.rfl))|((with_reducible apply P6);rfl;(simp (disch:=omega);exact Red.rfl);exact Red.rfl;(focus (first|(simp [pr];done)|(simp [pr];omega))))|((with_reducible apply P7);rfl;(simp (disch:=omega);exact Red.rfl);exact Red.rfl;(focus (simp [repast, pr, AOp.sem];done))))
  (with_reducible apply e_call); (simp; exact Red.rfl); exact c_pick _ l id off H.length ex (by rw [rd_old _ hid]; exact hs) hv (by simp)
  obtain ⟨a, r, hks⟩ := ksF_ne hv
  rw [hks]
  simp only [pkV_cons, pkH_cons]
  rintro _ _ ⟨rfl, rfl⟩
  repeat (first|(with_reducible first|apply X1|apply X2|apply X3|apply X4|apply X5|apply X6|apply X7|apply X8|apply X9|apply Y1|apply Y2|apply Y3|apply Y4|apply Y5|apply Y6|apply Y7|apply Y8|apply Y9)|((with_reducible apply q_block_other);decide)|((with_reducible first|apply e_end|apply d_end);(simp;exact Red.rfl))|((first|((with_reducible apply O1);rfl)|((with_reducible apply O2);rfl)|((with_reducible apply P1);rfl)|((with_reducible apply P2);rfl)|((with_reducible apply P3);rfl)|((with_reducible apply P4);rfl)|((with_reducible apply P5);rfl));(simp (disch:=omega);exact Red.rfl);exact Red.rfl;(focus (first|(simp;done)|omega|(simp;omega))))|((with_reducible first|apply Z7|apply Z8|apply Z9);(simp (disch:=omega);exact Red.rfl))|((with_reducible first|apply Z1|apply Z2|apply Z3|apply Z4|apply Z5|apply Z6);(simp (disch:=omega);exact Red.rfl))|((with_reducible first|apply W1|apply W2|apply W3);(simp (disch:=omega);exact Red.rfl))|((with_reducible apply P6);rfl;(simp (disch:=omega);exact Red.rfl);exact Red.rfl;(focus (first|(simp [pr];done)|(simp [pr];omega))))|((with_reducible apply P7);rfl;(simp (disch:=omega);exact Red.rfl);exact Red.rfl;(focus (simp [repast, pr, AOp.sem];done))))
  refine q_post (v' := .tuple [.slice H.length 0 (r.length + 1) 1 false, .int .i64 0]) (.inr rfl) (by simp; exact Red.rfl) (le_keep1 1 rfl (by simp [sh, AV.ren, renL])) ⟨rfl, rfl⟩
def mpE (xs : List Nat) : List (AV × AV) := xs.map fun k : Nat => (.int .i64 (k : Int), .bool true)
def mp (xs : List Nat) : AObj := .other (.map (mpE xs) (List.range xs.length) xs.length)
end Go.Proofs
