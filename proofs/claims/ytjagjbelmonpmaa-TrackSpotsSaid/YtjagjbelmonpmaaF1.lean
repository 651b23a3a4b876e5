/- Contracts of the reference: drops and marks. -/
import Derived.Test.YtjagjbelmonpmaaE5p
import Derived.Test.YtjagjbelmonpmaaE1
import Derived.Test.YtjagjbelmonpmaaDD
namespace Go.Proofs
open Go.Abs
attribute [local simp] AOp.den AOpd.ev lk cellsOf rd_new rd_new0 rd_zero rd_succ wr_new wr_new0 wr_zero wr_succ splice fillA binA scal sliceCells List.length_append argsT AV.sc scL AObj.sc resV getAll AR.get AOp.slots opdSlots opdsSlots partSlots eqAt at_new0 at_new set_new0 set_new wrap64
set_option linter.unusedSimpArgs false
set_option linter.unusedVariables false
theorem c_rdrop (H : Heap) (l : List Str) (id off : Nat) (ex : Bool) (a b : Nat) (hs : rd H id off (l.length * 9) = some (l.flatMap Str.av)) (hv : validL l) (hab : a ≤ b) (hb : b ≤ l.length) :
    ACalls Try.prog F.ref01_drop [.agg [.slice id off l.length 9 ex], .int .i64 a, .int .i64 b] H
      (fun v h' => v = .tuple [.agg [.int .i64 (sumF (kLo kLong l) a (b - a)), .int .i64 (sumF (kHi kLong l) a (b - a))], .agg [.int .i64 (sumF (kLo kFall l) a (b - a)), .int .i64 (sumF (kHi kFall l) a (b - a))]] ∧ h' = H) := by
  refine acalls_of ok_ref01_drop rfl fun hcl => ?_
  unfold ac_ref01_drop
  simp only [argsT, Nat.zero_add, Nat.reduceAdd]
  have hid := rd_lt hs
  have h12 := hv.1
  repeat (first|(with_reducible first|apply X1|apply X2|apply X3|apply X4|apply X5|apply X6|apply X7|apply X8|apply X9|apply Y1|apply Y2|apply Y3|apply Y4|apply Y5|apply Y6|apply Y7|apply Y8|apply Y9)|((with_reducible apply q_block_other);decide)|((with_reducible first|apply e_end|apply d_end);(simp;exact Red.rfl))|((first|((with_reducible apply O1);rfl)|((with_reducible apply O2);rfl)|((with_reducible apply P1);rfl)|((with_reducible apply P2);rfl)|((with_reducible apply P3);rfl)|((with_reducible apply P4);rfl)|((with_reducible apply P5);rfl));(simp (disch:=omega);exact Red.rfl);exact Red.rfl;(focus (first|(simp;done)|omega|(simp;omega))))|((with_reducible first|apply Z7|apply Z8|apply Z9);(simp (disch:=omega);exact Red.rfl))|((with_reducible first|apply Z1|apply Z2|apply Z3|apply Z4|apply Z5|apply Z6);(simp (disch:=omega);exact Red.rfl))|((with_reducible first|apply W1|apply W2|apply W3);(simp (disch:=omega);exact Red.rfl))|((with_reducible apply P6);rfl;(simp (disch:=omega);exact Red.rfl);exact Red.rfl;(focus (first|(simp [pr];done)|(simp [pr];omega))))|((with_reducible apply P7);rfl;(simp (disch:=omega);exact Red.rfl);exact Red.rfl;(focus (simp [repast, pr, AOp.sem];done))))
  refine e_loop (ι := { i : Nat // i ≤ b - a })
    (fun i => [(2, .int .i64 b), (3, .ptr H.length 0), (6, .ptr (H.length + 1) 0), (7, .ptr (H.length + 2) 0), (8, .ptr (H.length + 3) 0), (9, .ptr (H.length + 4) 0), (10, .int .i64 ((a + i.1 : Nat) : Int))])
    (fun i => H ++ [.cells [.slice id off l.length 9 ex] true, .cells [.int .i64 0, .int .i64 0] true, .cells [.int .i64 0, .int .i64 0] true,
      .cells [.int .i64 (sumF (kLo kLong l) a i.1), .int .i64 (sumF (kHi kLong l) a i.1)] true, .cells [.int .i64 (sumF (kLo kFall l) a i.1), .int .i64 (sumF (kHi kFall l) a i.1)] true]) (fun i => b - a - i.1) ⟨0, by simp⟩ ?_ ?_
  · exact .inr <| le_same (by simp; omega) (by simp [Red, sumF])
  · rintro ⟨i, hi⟩
    dsimp only
    by_cases hlt : i < b - a
    · have hlt2 : (a : Int) + i < b := by omega
      have hx := rd_row Str.av_length hs (show a + i < l.length by omega)
      have ho := (hv.2 (a + i) (by omega)).2.1
      have hst := strAt_eq (show a + i < l.length by omega)
      have b1 := kind_bd kLong_ok hv (show a + i ≤ l.length by omega)
      have b2 := kind_bd kFall_ok hv (show a + i ≤ l.length by omega)
      have e1 : sumF (kLo kLong l) a (i + 1) = sumF (kLo kLong l) a i + l[a + i].lLo := by simp [sumF, kLo, kLong, hst]
      have e2 : sumF (kHi kLong l) a (i + 1) = sumF (kHi kLong l) a i + l[a + i].lHi := by simp [sumF, kHi, kLong, hst]
      have e3 : sumF (kLo kFall l) a (i + 1) = sumF (kLo kFall l) a i + l[a + i].fLo := by simp [sumF, kLo, kFall, hst]
      have e4 : sumF (kHi kFall l) a (i + 1) = sumF (kHi kFall l) a i + l[a + i].fHi := by simp [sumF, kHi, kFall, hst]
      have hai : a + i < l.length := by omega
      have hai2 : (a : Int) + i < l.length := by omega
      have hz : ((a : Int) + i).toNat = a + i := by omega
      generalize l[a + i] = s at hx ho e1 e2 e3 e4
      obtain ⟨a1, a2, a3, a4, a5, a6, a7, a8, a9⟩ := s
      simp only [Str.av] at hx
      simp only [Str.ok] at ho
      simp only at e1 e2 e3 e4
      repeat (first|(with_reducible first|apply X1|apply X2|apply X3|apply X4|apply X5|apply X6|apply X7|apply X8|apply X9|apply Y1|apply Y2|apply Y3|apply Y4|apply Y5|apply Y6|apply Y7|apply Y8|apply Y9)|((with_reducible apply q_block_other);decide)|((with_reducible first|apply e_end|apply d_end);(simp;exact Red.rfl))|((first|((with_reducible apply O1);rfl)|((with_reducible apply O2);rfl)|((with_reducible apply P1);rfl)|((with_reducible apply P2);rfl)|((with_reducible apply P3);rfl)|((with_reducible apply P4);rfl)|((with_reducible apply P5);rfl));(simp (disch:=omega) [hlt, hlt2, hai, hai2, hz, rd_old _ hid, hx];exact Red.rfl);exact Red.rfl;(focus (first|(simp;done)|omega|(simp;omega))))|((with_reducible first|apply Z7|apply Z8|apply Z9);(simp (disch:=omega) [hlt, hlt2, hai, hai2, hz, rd_old _ hid, hx];exact Red.rfl))|((with_reducible first|apply Z1|apply Z2|apply Z3|apply Z4|apply Z5|apply Z6);(simp (disch:=omega) [hlt, hlt2, hai, hai2, hz, rd_old _ hid, hx];exact Red.rfl))|((with_reducible first|apply W1|apply W2|apply W3);(simp (disch:=omega) [hlt, hlt2, hai, hai2, hz, rd_old _ hid, hx];exact Red.rfl))|((with_reducible apply P6);rfl;(simp (disch:=omega) [hlt, hlt2, hai, hai2, hz, rd_old _ hid, hx];exact Red.rfl);exact Red.rfl;(focus (first|(simp [pr];done)|(simp [pr];omega))))|((with_reducible apply P7);rfl;(simp (disch:=omega) [hlt, hlt2, hai, hai2, hz, rd_old _ hid, hx];exact Red.rfl);exact Red.rfl;(focus (simp [repast, pr, AOp.sem];done))))
      refine q_again ⟨i + 1, by omega⟩ (by dsimp only; omega) (.inr ?_)
      simp only [e1, e2, e3, e4]
      exact le_to0 [0, 1, 2, 3, 4] (by simp) (by simp [KeepAll, sh, AObj.ren, AV.ren, renL, hid]; omega) (by simp [sh, AV.ren]; omega)
    · have hlt2 : ¬ ((a : Int) + i < b) := by omega
      have e : i = b - a := by omega
      repeat (first|(with_reducible first|apply X1|apply X2|apply X3|apply X4|apply X5|apply X6|apply X7|apply X8|apply X9|apply Y1|apply Y2|apply Y3|apply Y4|apply Y5|apply Y6|apply Y7|apply Y8|apply Y9)|((with_reducible apply q_block_other);decide)|((with_reducible first|apply e_end|apply d_end);(simp;exact Red.rfl))|((first|((with_reducible apply O1);rfl)|((with_reducible apply O2);rfl)|((with_reducible apply P1);rfl)|((with_reducible apply P2);rfl)|((with_reducible apply P3);rfl)|((with_reducible apply P4);rfl)|((with_reducible apply P5);rfl));(simp (disch:=omega) [hlt2, hlt];exact Red.rfl);exact Red.rfl;(focus (first|(simp;done)|omega|(simp;omega))))|((with_reducible first|apply Z7|apply Z8|apply Z9);(simp (disch:=omega) [hlt2, hlt];exact Red.rfl))|((with_reducible first|apply Z1|apply Z2|apply Z3|apply Z4|apply Z5|apply Z6);(simp (disch:=omega) [hlt2, hlt];exact Red.rfl))|((with_reducible first|apply W1|apply W2|apply W3);(simp (disch:=omega) [hlt2, hlt];exact Red.rfl))|((with_reducible apply P6);rfl;(simp (disch:=omega) [hlt2, hlt];exact Red.rfl);exact Red.rfl;(focus (first|(simp [pr];done)|(simp [pr];omega))))|((with_reducible apply P7);rfl;(simp (disch:=omega) [hlt2, hlt];exact Red.rfl);exact Red.rfl;(focus (simp [repast, pr, AOp.sem];done))))
      (with_reducible apply d_do_); rfl; rfl; (simp (disch := omega); exact Red.rfl); exact Red.rfl
      · (first | (simp; done) | omega | (simp; omega))
      · (first | (simp; done) | omega | (simp; omega))
      · (first | (simp; done) | omega | (simp; omega))
      · simp [recheck, pr, AOp.sem]
      simp only [St.put]
      repeat (first|(with_reducible first|apply X1|apply X2|apply X3|apply X4|apply X5|apply X6|apply X7|apply X8|apply X9|apply Y1|apply Y2|apply Y3|apply Y4|apply Y5|apply Y6|apply Y7|apply Y8|apply Y9)|((with_reducible apply q_block_other);decide)|((with_reducible first|apply e_end|apply d_end);(simp;exact Red.rfl))|((first|((with_reducible apply O1);rfl)|((with_reducible apply O2);rfl)|((with_reducible apply P1);rfl)|((with_reducible apply P2);rfl)|((with_reducible apply P3);rfl)|((with_reducible apply P4);rfl)|((with_reducible apply P5);rfl));(simp (disch:=omega);exact Red.rfl);exact Red.rfl;(focus (first|(simp;done)|omega|(simp;omega))))|((with_reducible first|apply Z7|apply Z8|apply Z9);(simp (disch:=omega);exact Red.rfl))|((with_reducible first|apply Z1|apply Z2|apply Z3|apply Z4|apply Z5|apply Z6);(simp (disch:=omega);exact Red.rfl))|((with_reducible first|apply W1|apply W2|apply W3);(simp (disch:=omega);exact Red.rfl))|((with_reducible apply P6);rfl;(simp (disch:=omega);exact Red.rfl);exact Red.rfl;(focus (first|(simp [pr];done)|(simp [pr];omega))))|((with_reducible apply P7);rfl;(simp (disch:=omega);exact Red.rfl);exact Red.rfl;(focus (simp [repast, pr, AOp.sem];done))))
      refine q_drop (.inr rfl) (by simp; exact Red.rfl) (by simp) ⟨by rw [e], rfl⟩

theorem c_rmarks (H : Heap) (l : List Str) (id off : Nat) (ex : Bool) (hs : rd H id off (l.length * 9) = some (l.flatMap Str.av)) (hv : validL l) :
    ACalls Try.prog F.ref01_marks [.agg [.slice id off l.length 9 ex]] H (fun v h' => v = .slice H.length 0 (l.length + 1) 2 false ∧ h' = H ++ [.cells (avR (r2 (mLo l) (mHi l)) (l.length + 1)) true]) := by
  refine acalls_of ok_ref01_marks rfl fun hcl => ?_
  unfold ac_ref01_marks
  simp only [argsT, Nat.zero_add, Nat.reduceAdd]
  have hid := rd_lt hs
  have h12 := hv.1
  repeat (first|(with_reducible first|apply X1|apply X2|apply X3|apply X4|apply X5|apply X6|apply X7|apply X8|apply X9|apply Y1|apply Y2|apply Y3|apply Y4|apply Y5|apply Y6|apply Y7|apply Y8|apply Y9)|((with_reducible apply q_block_other);decide)|((with_reducible first|apply e_end|apply d_end);(simp;exact Red.rfl))|((first|((with_reducible apply O1);rfl)|((with_reducible apply O2);rfl)|((with_reducible apply P1);rfl)|((with_reducible apply P2);rfl)|((with_reducible apply P3);rfl)|((with_reducible apply P4);rfl)|((with_reducible apply P5);rfl));(simp (disch:=omega);exact Red.rfl);exact Red.rfl;(focus (first|(simp;done)|omega|(simp;omega))))|((with_reducible first|apply Z7|apply Z8|apply Z9);(simp (disch:=omega);exact Red.rfl))|((with_reducible first|apply Z1|apply Z2|apply Z3|apply Z4|apply Z5|apply Z6);(simp (disch:=omega);exact Red.rfl))|((with_reducible first|apply W1|apply W2|apply W3);(simp (disch:=omega);exact Red.rfl))|((with_reducible apply P6);rfl;(simp (disch:=omega);exact Red.rfl);exact Red.rfl;(focus (first|(simp [pr];done)|(simp [pr];omega))))|((with_reducible apply P7);rfl;(simp (disch:=omega);exact Red.rfl);exact Red.rfl;(focus (simp [repast, pr, AOp.sem];done))))
  refine e_loop (ι := { i : Nat // i ≤ l.length + 1 })
    (fun i => [(1, .ptr H.length 0), (3, if i.1 = 0 then .nilslice else .slice (H.length + 1) 0 i.1 2 false), (4, .int .i64 i.1)])
    (fun i => H ++ (.cells [.slice id off l.length 9 ex] true :: if i.1 = 0 then [] else [.cells (avR (r2 (mLo l) (mHi l)) i.1) true])) (fun i => l.length + 1 - i.1) ⟨0, by simp⟩ ?_ ?_
  · exact .inr <| le_same (by simp; omega) (by simp [Red])
  · rintro ⟨i, hi⟩
    dsimp only
    by_cases hlt : i < l.length + 1
    · have hlt2 : (i : Int) ≤ l.length := by omega
      have hlt3 : i ≤ l.length := by omega
      by_cases h0 : i = 0
      · subst h0
        simp only [if_true]
        repeat (first|(with_reducible first|apply X1|apply X2|apply X3|apply X4|apply X5|apply X6|apply X7|apply X8|apply X9|apply Y1|apply Y2|apply Y3|apply Y4|apply Y5|apply Y6|apply Y7|apply Y8|apply Y9)|((with_reducible apply q_block_other);decide)|((with_reducible first|apply e_end|apply d_end);(simp;exact Red.rfl))|((first|((with_reducible apply O1);rfl)|((with_reducible apply O2);rfl)|((with_reducible apply P1);rfl)|((with_reducible apply P2);rfl)|((with_reducible apply P3);rfl)|((with_reducible apply P4);rfl)|((with_reducible apply P5);rfl));(simp (disch:=omega) [hlt3];exact Red.rfl);exact Red.rfl;(focus (first|(simp;done)|omega|(simp;omega))))|((with_reducible first|apply Z7|apply Z8|apply Z9);(simp (disch:=omega) [hlt3];exact Red.rfl))|((with_reducible first|apply Z1|apply Z2|apply Z3|apply Z4|apply Z5|apply Z6);(simp (disch:=omega) [hlt3];exact Red.rfl))|((with_reducible first|apply W1|apply W2|apply W3);(simp (disch:=omega) [hlt3];exact Red.rfl))|((with_reducible apply P6);rfl;(simp (disch:=omega) [hlt3];exact Red.rfl);exact Red.rfl;(focus (first|(simp [pr];done)|(simp [pr];omega))))|((with_reducible apply P7);rfl;(simp (disch:=omega) [hlt3];exact Red.rfl);exact Red.rfl;(focus (simp [repast, pr, AOp.sem];done))))
        (with_reducible apply e_call); (simp; exact Red.rfl); exact c_rdrop _ l id off ex 0 0 (by rw [rd_old _ hid]; exact hs) hv (by omega) (by omega)
        rintro _ _ ⟨rfl, rfl⟩
        repeat (first|(with_reducible first|apply X1|apply X2|apply X3|apply X4|apply X5|apply X6|apply X7|apply X8|apply X9|apply Y1|apply Y2|apply Y3|apply Y4|apply Y5|apply Y6|apply Y7|apply Y8|apply Y9)|((with_reducible apply q_block_other);decide)|((with_reducible first|apply e_end|apply d_end);(simp;exact Red.rfl))|((first|((with_reducible apply O1);rfl)|((with_reducible apply O2);rfl)|((with_reducible apply P1);rfl)|((with_reducible apply P2);rfl)|((with_reducible apply P3);rfl)|((with_reducible apply P4);rfl)|((with_reducible apply P5);rfl));(simp (disch:=omega);exact Red.rfl);exact Red.rfl;(focus (first|(simp;done)|omega|(simp;omega))))|((with_reducible first|apply Z7|apply Z8|apply Z9);(simp (disch:=omega);exact Red.rfl))|((with_reducible first|apply Z1|apply Z2|apply Z3|apply Z4|apply Z5|apply Z6);(simp (disch:=omega);exact Red.rfl))|((with_reducible first|apply W1|apply W2|apply W3);(simp (disch:=omega);exact Red.rfl))|((with_reducible apply P6);rfl;(simp (disch:=omega);exact Red.rfl);exact Red.rfl;(focus (first|(simp [pr];done)|(simp [pr];omega))))|((with_reducible apply P7);rfl;(simp (disch:=omega);exact Red.rfl);exact Red.rfl;(focus (simp [repast, pr, AOp.sem];done))))
        refine q_again ⟨1, by omega⟩ (by dsimp only; omega) (.inr ?_)
        have e : avR (r2 (mLo l) (mHi l)) 1 = [.int .i64 (sumF (kLo kLong l) 0 0), .int .i64 (sumF (kHi kLong l) 0 0)] := by rw [avR_succ, avR_zero]; rfl
        simp only [Nat.one_ne_zero, if_false, e]
        exact le_to0 [0, 4] (by simp) (by simp [KeepAll, sh, AObj.ren, AV.ren, renL, hid]; omega) (by simp [sh, AV.ren])
      · have pl := (plain_r2 (mLo l) (mHi l)).plain i
        have ln := (plain_r2 (mLo l) (mHi l)).length i
        simp only [h0, if_false]
        repeat (first|(with_reducible first|apply X1|apply X2|apply X3|apply X4|apply X5|apply X6|apply X7|apply X8|apply X9|apply Y1|apply Y2|apply Y3|apply Y4|apply Y5|apply Y6|apply Y7|apply Y8|apply Y9)|((with_reducible apply q_block_other);decide)|((with_reducible first|apply e_end|apply d_end);(simp;exact Red.rfl))|((first|((with_reducible apply O1);rfl)|((with_reducible apply O2);rfl)|((with_reducible apply P1);rfl)|((with_reducible apply P2);rfl)|((with_reducible apply P3);rfl)|((with_reducible apply P4);rfl)|((with_reducible apply P5);rfl));(simp (disch:=omega) [hlt2, hlt3];exact Red.rfl);exact Red.rfl;(focus (first|(simp;done)|omega|(simp;omega))))|((with_reducible first|apply Z7|apply Z8|apply Z9);(simp (disch:=omega) [hlt2, hlt3];exact Red.rfl))|((with_reducible first|apply Z1|apply Z2|apply Z3|apply Z4|apply Z5|apply Z6);(simp (disch:=omega) [hlt2, hlt3];exact Red.rfl))|((with_reducible first|apply W1|apply W2|apply W3);(simp (disch:=omega) [hlt2, hlt3];exact Red.rfl))|((with_reducible apply P6);rfl;(simp (disch:=omega) [hlt2, hlt3];exact Red.rfl);exact Red.rfl;(focus (first|(simp [pr];done)|(simp [pr];omega))))|((with_reducible apply P7);rfl;(simp (disch:=omega) [hlt2, hlt3];exact Red.rfl);exact Red.rfl;(focus (simp [repast, pr, AOp.sem];done))))
        (with_reducible apply e_call); (simp; exact Red.rfl); exact c_rdrop _ l id off ex 0 i (by rw [rd_old _ hid]; exact hs) hv (by omega) (by omega)
        rintro _ _ ⟨rfl, rfl⟩
        repeat (first|(with_reducible first|apply X1|apply X2|apply X3|apply X4|apply X5|apply X6|apply X7|apply X8|apply X9|apply Y1|apply Y2|apply Y3|apply Y4|apply Y5|apply Y6|apply Y7|apply Y8|apply Y9)|((with_reducible apply q_block_other);decide)|((with_reducible first|apply e_end|apply d_end);(simp;exact Red.rfl))|((first|((with_reducible apply O1);rfl)|((with_reducible apply O2);rfl)|((with_reducible apply P1);rfl)|((with_reducible apply P2);rfl)|((with_reducible apply P3);rfl)|((with_reducible apply P4);rfl)|((with_reducible apply P5);rfl));(simp (disch:=omega) [pl.scal, ln, take_all ln];exact Red.rfl);exact Red.rfl;(focus (first|(simp;done)|omega|(simp;omega))))|((with_reducible first|apply Z7|apply Z8|apply Z9);(simp (disch:=omega) [pl.scal, ln, take_all ln];exact Red.rfl))|((with_reducible first|apply Z1|apply Z2|apply Z3|apply Z4|apply Z5|apply Z6);(simp (disch:=omega) [pl.scal, ln, take_all ln];exact Red.rfl))|((with_reducible first|apply W1|apply W2|apply W3);(simp (disch:=omega) [pl.scal, ln, take_all ln];exact Red.rfl))|((with_reducible apply P6);rfl;(simp (disch:=omega) [pl.scal, ln, take_all ln];exact Red.rfl);exact Red.rfl;(focus (first|(simp [pr];done)|(simp [pr];omega))))|((with_reducible apply P7);rfl;(simp (disch:=omega) [pl.scal, ln, take_all ln];exact Red.rfl);exact Red.rfl;(focus (simp [repast, pr, AOp.sem];done))))
        refine q_again ⟨i + 1, by omega⟩ (by dsimp only; omega) (.inr ?_)
        have e : avR (r2 (mLo l) (mHi l)) i ++ [.int .i64 (sumF (kLo kLong l) 0 i), .int .i64 (sumF (kHi kLong l) 0 i)] = avR (r2 (mLo l) (mHi l)) (i + 1) := by rw [avR_succ]; rfl
        have pl2 := (plain_r2 (mLo l) (mHi l)).plain (i + 1)
        simp only [Nat.succ_ne_zero, if_false]
        rw [e]
        exact le_to0 [0, 5] (by simp) (by simp [KeepAll, sh, AObj.ren, AV.ren, renL, hid, pl2.sc, pl2.ren]; omega) (by simp [sh, AV.ren])
    · obtain rfl : i = l.length + 1 := by omega
      have h0 : ¬ l.length + 1 = 0 := by omega
      simp only [h0, if_false]
      have hlt2 : ¬ ((l.length : Int) + 1 ≤ l.length) := by omega
      have pl := (plain_r2 (mLo l) (mHi l)).plain (l.length + 1)
      repeat (first|(with_reducible first|apply X1|apply X2|apply X3|apply X4|apply X5|apply X6|apply X7|apply X8|apply X9|apply Y1|apply Y2|apply Y3|apply Y4|apply Y5|apply Y6|apply Y7|apply Y8|apply Y9)|((with_reducible apply q_block_other);decide)|((with_reducible first|apply e_end|apply d_end);(simp;exact Red.rfl))|((first|((with_reducible apply O1);rfl)|((with_reducible apply O2);rfl)|((with_reducible apply P1);rfl)|((with_reducible apply P2);rfl)|((with_reducible apply P3);rfl)|((with_reducible apply P4);rfl)|((with_reducible apply P5);rfl));(simp (disch:=omega) [hlt2];exact Red.rfl);exact Red.rfl;(focus (first|(simp;done)|omega|(simp;omega))))|((with_reducible first|apply Z7|apply Z8|apply Z9);(simp (disch:=omega) [hlt2];exact Red.rfl))|((with_reducible first|apply Z1|apply Z2|apply Z3|apply Z4|apply Z5|apply Z6);(simp (disch:=omega) [hlt2];exact Red.rfl))|((with_reducible first|apply W1|apply W2|apply W3);(simp (disch:=omega) [hlt2];exact Red.rfl))|((with_reducible apply P6);rfl;(simp (disch:=omega) [hlt2];exact Red.rfl);exact Red.rfl;(focus (first|(simp [pr];done)|(simp [pr];omega))))|((with_reducible apply P7);rfl;(simp (disch:=omega) [hlt2];exact Red.rfl);exact Red.rfl;(focus (simp [repast, pr, AOp.sem];done))))
      exact q_post (v' := .slice H.length 0 (l.length + 1) 2 false) (.inr rfl) (by simp; exact Red.rfl) (le_plain [1] _ (by simp) rfl (by simp; exact pl.o _) (by simp [sh, AV.ren])) ⟨rfl, rfl⟩
/-- What is told of a drop. -/
def dOK (l : List Str) (a b : Int) : Prop := 0 ≤ a ∧ a ≤ b ∧ b ≤ l.length
end Go.Proofs
