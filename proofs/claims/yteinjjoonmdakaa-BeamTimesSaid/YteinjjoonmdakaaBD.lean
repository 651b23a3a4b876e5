/- Several texts as one. -/
import Derived.Test.YteinjjoonmdakaaBC
import Derived.Test.YteinjjoonmdakaaDD
import Derived.Test.YteinjjoonmdakaaEX
/- The times of a signal, by program and reference. -/
namespace Go.Proofs
open Go.Abs
attribute [local simp] AOp.den AOpd.ev lk cellsOf rd_new rd_new0 rd_zero rd_succ wr_new wr_new0 wr_zero wr_succ splice fillA binA scal sliceCells List.length_append argsT AV.sc scL AObj.sc resV getAll AR.get AOp.slots opdSlots opdsSlots partSlots eqAt at_new0 at_new set_new0 set_new wrap64
set_option linter.unusedSimpArgs false
set_option linter.unusedVariables false
set_option maxHeartbeats 4000000 in
theorem c_tells (H : Heap) (x : Ln) (p : LP) (h : LnAt H x p) (bi rdg : Int) {b : Bool} (hb : b = true ↔ (0 ≤ bi ∧ bi ≤ (x.nb : Int) - 1) ∧ 0 ≤ rdg ∧ rdg ≤ 86400000) :
    ACalls Try.prog F.beam_line_tells [.agg (x.av p), .agg [.int .i64 bi, .int .i64 rdg]] H (fun v h' => v = .bool b ∧ h' = H) := by
  obtain ⟨l1, l2, l3⟩ := h.lt
  have hnl := h.ln
  have cI := fun G => c_indB (H ++ G) (.slice p.bid p.boff x.nb 4 p.bex) x.nb (.inr ⟨_, _, _, _, rfl⟩) (by omega)
  have hno : ¬ ((0 ≤ bi ∧ bi ≤ (x.nb : Int) - 1) ∧ 0 ≤ rdg ∧ rdg ≤ 86400000) → b = false := fun hn => by
    cases b with
    | false => rfl
    | true => exact absurd (hb.1 rfl) hn
  simp only [Ln.av]
  refine acalls_of ok_beam_line_tells rfl fun hcl => ?_
  unfold ac_beam_line_tells
  simp only [argsT, Nat.zero_add, Nat.reduceAdd]
  by_cases c1 : 0 ≤ bi ∧ bi ≤ (x.nb : Int) - 1
  rotate_left
  · obtain rfl := hno (fun h => c1 h.1)
    repeat (first|(with_reducible first|apply X1|apply X2|apply X8|apply Y9)|((with_reducible apply e_end);(simp;exact Red.rfl))|((first|((with_reducible apply O1);rfl)|((with_reducible apply P1);rfl)|((with_reducible apply P2);rfl));(simp (disch:=omega);exact Red.rfl);exact Red.rfl;(focus (first|(simp;done)|omega|(simp;omega)))))
    (with_reducible apply d_call); (simp; exact Red.rfl); exact cI _; (focus (first | (simp; done) | (simp; omega)))
    repeat (first|((first|((with_reducible apply P1);rfl)|((with_reducible apply P3);rfl));(simp (disch:=omega);exact Red.rfl);exact Red.rfl;(focus (first|(simp;done)|omega|(simp;omega))))|((with_reducible apply P6);rfl;(simp (disch:=omega);exact Red.rfl);exact Red.rfl;(focus (first|(simp [pr];done)|(simp [pr];omega)))))
    (with_reducible apply d_call); (simp; exact Red.rfl); exact c_within1 _ 0 ((x.nb : Int) - 1) bi (H.length + 2) 0 true (b := false) (by simp) (by simp; omega); (focus (first | (simp; done) | (simp; omega)))
    repeat (first|(with_reducible first|apply X3|apply X8)|((with_reducible apply d_end);(simp;exact Red.rfl))|((with_reducible apply P1);rfl;(simp (disch:=omega);exact Red.rfl);exact Red.rfl;(focus (first|(simp;done)|omega|(simp;omega))))|((with_reducible apply Z5);(simp (disch:=omega);exact Red.rfl)))
    refine q_drop (.inr rfl) (by simp; exact Red.rfl) (by simp) ⟨rfl, rfl⟩
  · by_cases c2 : 0 ≤ rdg ∧ rdg ≤ 86400000
    rotate_left
    · obtain rfl := hno (fun h => c2 h.2)
      repeat (first|(with_reducible first|apply X1|apply X2|apply X8|apply Y9)|((with_reducible apply e_end);(simp;exact Red.rfl))|((first|((with_reducible apply O1);rfl)|((with_reducible apply P1);rfl)|((with_reducible apply P2);rfl));(simp (disch:=omega);exact Red.rfl);exact Red.rfl;(focus (first|(simp;done)|omega|(simp;omega)))))
      (with_reducible apply d_call); (simp; exact Red.rfl); exact cI _; (focus (first | (simp; done) | (simp; omega)))
      repeat (first|((first|((with_reducible apply P1);rfl)|((with_reducible apply P3);rfl));(simp (disch:=omega);exact Red.rfl);exact Red.rfl;(focus (first|(simp;done)|omega|(simp;omega))))|((with_reducible apply P6);rfl;(simp (disch:=omega);exact Red.rfl);exact Red.rfl;(focus (first|(simp [pr];done)|(simp [pr];omega)))))
      (with_reducible apply d_call); (simp; exact Red.rfl); exact c_within1 _ 0 ((x.nb : Int) - 1) bi (H.length + 2) 0 true (b := true) (by simp) (by simp; omega); (focus (first | (simp; done) | (simp; omega)))
      repeat (first|((with_reducible apply P1);rfl;(simp (disch:=omega);exact Red.rfl);exact Red.rfl;(focus (first|(simp;done)|omega|(simp;omega))))|((with_reducible apply Z8);(simp (disch:=omega);exact Red.rfl)))
      (with_reducible apply d_call); (simp; exact Red.rfl); exact c_day _; (focus (first | (simp; done) | (simp; omega)))
      repeat (first|((first|((with_reducible apply P1);rfl)|((with_reducible apply P3);rfl));(simp (disch:=omega);exact Red.rfl);exact Red.rfl;(focus (first|(simp;done)|omega|(simp;omega))))|((with_reducible apply Z8);(simp (disch:=omega);exact Red.rfl))|((with_reducible apply P6);rfl;(simp (disch:=omega);exact Red.rfl);exact Red.rfl;(focus (first|(simp [pr];done)|(simp [pr];omega)))))
      (with_reducible apply d_call); (simp; exact Red.rfl); exact c_within1 _ 0 86400000 rdg (H.length + 3) 0 true (b := false) (by simp) (by simp; omega); (focus (first | (simp; done) | (simp; omega)))
      repeat (first|(with_reducible first|apply X3|apply X8)|((with_reducible apply d_end);(simp;exact Red.rfl))|((with_reducible apply P1);rfl;(simp (disch:=omega);exact Red.rfl);exact Red.rfl;(focus (first|(simp;done)|omega|(simp;omega)))))
      refine q_drop (.inr rfl) (by simp; exact Red.rfl) (by simp) ⟨rfl, rfl⟩
    · obtain rfl : b = true := hb.2 ⟨c1, c2⟩
      repeat (first|(with_reducible first|apply X1|apply X2|apply X8|apply Y9)|((with_reducible apply e_end);(simp;exact Red.rfl))|((first|((with_reducible apply O1);rfl)|((with_reducible apply P1);rfl)|((with_reducible apply P2);rfl));(simp (disch:=omega);exact Red.rfl);exact Red.rfl;(focus (first|(simp;done)|omega|(simp;omega)))))
      (with_reducible apply d_call); (simp; exact Red.rfl); exact cI _; (focus (first | (simp; done) | (simp; omega)))
      repeat (first|((first|((with_reducible apply P1);rfl)|((with_reducible apply P3);rfl));(simp (disch:=omega);exact Red.rfl);exact Red.rfl;(focus (first|(simp;done)|omega|(simp;omega))))|((with_reducible apply P6);rfl;(simp (disch:=omega);exact Red.rfl);exact Red.rfl;(focus (first|(simp [pr];done)|(simp [pr];omega)))))
      (with_reducible apply d_call); (simp; exact Red.rfl); exact c_within1 _ 0 ((x.nb : Int) - 1) bi (H.length + 2) 0 true (b := true) (by simp) (by simp; omega); (focus (first | (simp; done) | (simp; omega)))
      repeat (first|((with_reducible apply P1);rfl;(simp (disch:=omega);exact Red.rfl);exact Red.rfl;(focus (first|(simp;done)|omega|(simp;omega))))|((with_reducible apply Z8);(simp (disch:=omega);exact Red.rfl)))
      (with_reducible apply d_call); (simp; exact Red.rfl); exact c_day _; (focus (first | (simp; done) | (simp; omega)))
      repeat (first|((first|((with_reducible apply P1);rfl)|((with_reducible apply P3);rfl));(simp (disch:=omega);exact Red.rfl);exact Red.rfl;(focus (first|(simp;done)|omega|(simp;omega))))|((with_reducible apply Z8);(simp (disch:=omega);exact Red.rfl))|((with_reducible apply P6);rfl;(simp (disch:=omega);exact Red.rfl);exact Red.rfl;(focus (first|(simp [pr];done)|(simp [pr];omega)))))
      (with_reducible apply d_call); (simp; exact Red.rfl); exact c_within1 _ 0 86400000 rdg (H.length + 3) 0 true (b := true) (by simp) (by simp; omega); (focus (first | (simp; done) | (simp; omega)))
      repeat (first|(with_reducible first|apply X3|apply X8)|((with_reducible apply d_end);(simp;exact Red.rfl))|((with_reducible apply P1);rfl;(simp (disch:=omega);exact Red.rfl);exact Red.rfl;(focus (first|(simp;done)|omega|(simp;omega)))))
      refine q_drop (.inr rfl) (by simp; exact Red.rfl) (by simp) ⟨rfl, rfl⟩
noncomputable def whV (x : Ln) (bi rdg : Int) : Int × Int × Int :=
  open Classical in if lnE x = 0 then (if (0 ≤ bi ∧ bi ≤ (x.nb : Int) - 1) ∧ 0 ≤ rdg ∧ rdg ≤ 86400000 then (if fsT (x.cl (x.bm bi.toNat).ck.toNat) rdg ≤ ltT (x.cl (x.bm bi.toNat).ck.toNat) rdg - 1 then (fsT (x.cl (x.bm bi.toNat).ck.toNat) rdg, ltT (x.cl (x.bm bi.toNat).ck.toNat) rdg - 1, 0) else (0, 0, 6)) else (0, 0, 2)) else (0, 0, lnE x)
set_option maxHeartbeats 4000000 in
theorem when_both (x : Ln) (bi rdg : Int) : ∃ a b e : Int, whV x bi rdg = (a, b, e) ∧ ∀ (H : Heap) (p : LP), LnAt H x p →
    ACalls Try.prog F.beam_When [.agg (x.av p), .agg [.int .i64 bi, .int .i64 rdg]] H (fun v h' => v = .tuple [.agg [.int .i64 a, .int .i64 b], .int .i64 e] ∧ h' = H) ∧
    ACalls Try.prog F.ref05_When [.agg (x.av p), .agg [.int .i64 bi, .int .i64 rdg]] H (fun v h' => v = .tuple [.agg [.int .i64 a, .int .i64 b], .int .i64 e] ∧ h' = H) := by
  by_cases h0 : lnE x = 0
  rotate_left
  · refine ⟨0, 0, lnE x, by rw [whV, if_neg h0], fun H p h => ?_⟩
    have kC := fun G => c_CheckB (H ++ G) x p (h.app G)
    have kR := fun G => c_rCheckB (H ++ G) x p (h.app G)
    generalize lnE x = e at *
    simp only [Ln.av] at kC kR ⊢
    constructor
    · skip
      refine acalls_of ok_beam_When rfl fun hcl => ?_
      unfold ac_beam_When
      simp only [argsT, Nat.zero_add, Nat.reduceAdd]
      repeat (first|(with_reducible first|apply X1|apply X2|apply X8)|((with_reducible apply e_end);(simp;exact Red.rfl))|((with_reducible apply O1);rfl;(simp (disch:=omega);exact Red.rfl);exact Red.rfl;(focus (first|(simp;done)|omega|(simp;omega)))))
      (with_reducible apply e_call); (simp; exact Red.rfl); exact kC _
      rintro _ _ ⟨rfl, rfl⟩
      repeat (first|(with_reducible first|apply X1|apply X2|apply X3|apply X8|apply X9)|((with_reducible apply e_end);(simp;exact Red.rfl))|((first|((with_reducible apply O1);rfl)|((with_reducible apply O2);rfl));(simp (disch:=omega) [h0];exact Red.rfl);exact Red.rfl;(focus (first|(simp;done)|omega|(simp;omega))))|((with_reducible apply Z9);(simp (disch:=omega) [h0];exact Red.rfl)))
      refine q_drop (.inr rfl) (by simp; exact Red.rfl) (by simp) ⟨rfl, rfl⟩
    · skip
      refine acalls_of ok_ref05_When rfl fun hcl => ?_
      unfold ac_ref05_When
      simp only [argsT, Nat.zero_add, Nat.reduceAdd]
      repeat (first|(with_reducible first|apply X1|apply X2|apply X8)|((with_reducible apply e_end);(simp;exact Red.rfl))|((with_reducible apply O1);rfl;(simp (disch:=omega);exact Red.rfl);exact Red.rfl;(focus (first|(simp;done)|omega|(simp;omega)))))
      (with_reducible apply e_call); (simp; exact Red.rfl); exact kR _
      rintro _ _ ⟨rfl, rfl⟩
      repeat (first|(with_reducible first|apply X1|apply X2|apply X3|apply X8|apply X9)|((with_reducible apply e_end);(simp;exact Red.rfl))|((first|((with_reducible apply O1);rfl)|((with_reducible apply O2);rfl));(simp (disch:=omega) [h0];exact Red.rfl);exact Red.rfl;(focus (first|(simp;done)|omega|(simp;omega))))|((with_reducible apply Z9);(simp (disch:=omega) [h0];exact Red.rfl)))
      refine q_drop (.inr rfl) (by simp; exact Red.rfl) (by simp) ⟨rfl, rfl⟩
  · obtain ⟨hv, hok⟩ := lnE_zero h0
    by_cases c1 : (0 ≤ bi ∧ bi ≤ (x.nb : Int) - 1) ∧ 0 ≤ rdg ∧ rdg ≤ 86400000
    rotate_left
    · refine ⟨0, 0, 2, by rw [whV, if_pos h0, if_neg c1], fun H p h => ?_⟩
      have hnl := h.ln
      have kC := fun G => c_CheckB (H ++ G) x p (h.app G)
      have kR := fun G => c_rCheckB (H ++ G) x p (h.app G)
      have kT := fun G => c_tells (H ++ G) x p (h.app G) bi rdg (b := false) (by simp only [Bool.false_eq_true, false_iff]; exact c1)
      rw [h0] at kC kR
      simp only [Ln.av] at kC kR kT ⊢
      constructor
      · skip
        refine acalls_of ok_beam_When rfl fun hcl => ?_
        unfold ac_beam_When
        simp only [argsT, Nat.zero_add, Nat.reduceAdd]
        repeat (first|(with_reducible first|apply X1|apply X2|apply X8)|((with_reducible apply e_end);(simp;exact Red.rfl))|((with_reducible apply O1);rfl;(simp (disch:=omega);exact Red.rfl);exact Red.rfl;(focus (first|(simp;done)|omega|(simp;omega)))))
        (with_reducible apply e_call); (simp; exact Red.rfl); exact kC _
        rintro _ _ ⟨rfl, rfl⟩
        repeat (first|(with_reducible first|apply X1|apply X2|apply X5|apply X8)|((with_reducible apply e_end);(simp;exact Red.rfl))|((with_reducible apply O1);rfl;(simp (disch:=omega);exact Red.rfl);exact Red.rfl;(focus (first|(simp;done)|omega|(simp;omega))))|((with_reducible apply W3);(simp (disch:=omega);exact Red.rfl)))
        (with_reducible apply e_call); (simp; exact Red.rfl); exact kT _
        rintro _ _ ⟨rfl, rfl⟩
        repeat (first|(with_reducible first|apply X1|apply X2|apply X3|apply X8|apply X9)|((with_reducible apply e_end);(simp;exact Red.rfl))|((first|((with_reducible apply O1);rfl)|((with_reducible apply O2);rfl));(simp (disch:=omega);exact Red.rfl);exact Red.rfl;(focus (first|(simp;done)|omega|(simp;omega))))|((with_reducible apply Z9);(simp (disch:=omega);exact Red.rfl)))
        refine q_drop (.inr rfl) (by simp; exact Red.rfl) (by simp) ⟨rfl, rfl⟩
      · skip
        refine acalls_of ok_ref05_When rfl fun hcl => ?_
        unfold ac_ref05_When
        simp only [argsT, Nat.zero_add, Nat.reduceAdd]
        by_cases c2 : 0 ≤ bi ∧ bi ≤ (x.nb : Int) - 1
        · repeat (first|(with_reducible first|apply X1|apply X2|apply X8)|((with_reducible apply e_end);(simp;exact Red.rfl))|((with_reducible apply O1);rfl;(simp (disch:=omega);exact Red.rfl);exact Red.rfl;(focus (first|(simp;done)|omega|(simp;omega)))))
          (with_reducible apply e_call); (simp; exact Red.rfl); exact kR _
          rintro _ _ ⟨rfl, rfl⟩
          repeat (first|(with_reducible first|apply X1|apply X2|apply X5|apply X8)|((with_reducible apply e_end);(simp;exact Red.rfl))|((with_reducible apply O1);rfl;(simp (disch:=omega);exact Red.rfl);exact Red.rfl;(focus (first|(simp;done)|omega|(simp;omega))))|((with_reducible apply W3);(simp (disch:=omega);exact Red.rfl)))
          (with_reducible apply e_call); (simp; exact Red.rfl); exact c_w5 _ bi 0 ((x.nb : Int) - 1) (b := true) (by simp; omega)
          rintro _ _ ⟨rfl, rfl⟩
          repeat (first|((with_reducible apply O1);rfl;(simp (disch:=omega);exact Red.rfl);exact Red.rfl;(focus (first|(simp;done)|omega|(simp;omega))))|((with_reducible apply Z7);(simp (disch:=omega);exact Red.rfl)))
          (with_reducible apply e_call); (simp; exact Red.rfl); exact c_w5 _ rdg 0 86400000 (b := false) (by simp; omega)
          rintro _ _ ⟨rfl, rfl⟩
          repeat (first|(with_reducible first|apply X1|apply X2|apply X3|apply X8|apply X9)|((with_reducible apply e_end);(simp;exact Red.rfl))|((first|((with_reducible apply O1);rfl)|((with_reducible apply O2);rfl));(simp (disch:=omega);exact Red.rfl);exact Red.rfl;(focus (first|(simp;done)|omega|(simp;omega))))|((with_reducible first|apply Z7|apply Z9);(simp (disch:=omega);exact Red.rfl)))
          refine q_drop (.inr rfl) (by simp; exact Red.rfl) (by simp) ⟨rfl, rfl⟩
        · repeat (first|(with_reducible first|apply X1|apply X2|apply X8)|((with_reducible apply e_end);(simp;exact Red.rfl))|((with_reducible apply O1);rfl;(simp (disch:=omega);exact Red.rfl);exact Red.rfl;(focus (first|(simp;done)|omega|(simp;omega)))))
          (with_reducible apply e_call); (simp; exact Red.rfl); exact kR _
          rintro _ _ ⟨rfl, rfl⟩
          repeat (first|(with_reducible first|apply X1|apply X2|apply X5|apply X8)|((with_reducible apply e_end);(simp;exact Red.rfl))|((with_reducible apply O1);rfl;(simp (disch:=omega);exact Red.rfl);exact Red.rfl;(focus (first|(simp;done)|omega|(simp;omega))))|((with_reducible apply W3);(simp (disch:=omega);exact Red.rfl)))
          (with_reducible apply e_call); (simp; exact Red.rfl); exact c_w5 _ bi 0 ((x.nb : Int) - 1) (b := false) (by simp; omega)
          rintro _ _ ⟨rfl, rfl⟩
          repeat (first|(with_reducible first|apply X1|apply X2|apply X3|apply X8|apply X9)|((with_reducible apply e_end);(simp;exact Red.rfl))|((first|((with_reducible apply O1);rfl)|((with_reducible apply O2);rfl));(simp (disch:=omega);exact Red.rfl);exact Red.rfl;(focus (first|(simp;done)|omega|(simp;omega))))|((with_reducible apply Z9);(simp (disch:=omega);exact Red.rfl))|((with_reducible apply Z2);(simp (disch:=omega);exact Red.rfl)))
          refine q_drop (.inr rfl) (by simp; exact Red.rfl) (by simp) ⟨rfl, rfl⟩
    · obtain ⟨j, rfl⟩ := Int.eq_ofNat_of_zero_le c1.1.1
      have hj : j < x.nb := by omega
      have hPl := hok.2.2 j hj
      obtain ⟨i, hck⟩ := Int.eq_ofNat_of_zero_le hPl.2.2.1
      have hi : i < x.nc := by have := hPl.2.2.2; omega
      have hX := hok.2.1 i hi
      have b1 := fsT_bd (x.cl i) rdg
      have b2 := ltT_bd (x.cl i) rdg
      have kTb := fun G p h => c_timesB G x p h j i rdg hj hi hck hX c1.2
      have kWb := fun G p h => c_rwhen G x p h j i rdg hj hi hck hX c1.2
      have eV : whV x j rdg = if fsT (x.cl i) rdg ≤ ltT (x.cl i) rdg - 1 then (fsT (x.cl i) rdg, ltT (x.cl i) rdg - 1, 0) else (0, 0, 6) := by
        rw [whV, if_pos h0, if_pos c1]
        simp only [Int.toNat_natCast, hck]
      generalize whV x j rdg = V at *
      generalize fsT (x.cl i) rdg = f at *
      generalize ltT (x.cl i) rdg = l at *
      by_cases c3 : f ≤ l - 1
      · have e : max f l = l := by omega
        rw [e] at kTb
        have c4 : ¬ l - 1 < f := by omega
        refine ⟨f, l - 1, 0, by rw [eV, if_pos c3], fun H p h => ?_⟩
        have hnl := h.ln
        have kC := fun G => c_CheckB (H ++ G) x p (h.app G)
        have kR := fun G => c_rCheckB (H ++ G) x p (h.app G)
        have kT := fun G => c_tells (H ++ G) x p (h.app G) j rdg (b := true) (by simp only [true_iff]; exact c1)
        have kTb := fun G => kTb (H ++ G) p (h.app G)
        have kWb := fun G => kWb (H ++ G) p (h.app G)
        rw [h0] at kC kR
        simp only [Ln.av] at kC kR kT kTb kWb ⊢
        constructor
        · skip
          refine acalls_of ok_beam_When rfl fun hcl => ?_
          unfold ac_beam_When
          simp only [argsT, Nat.zero_add, Nat.reduceAdd]
          repeat (first|(with_reducible first|apply X1|apply X2|apply X8)|((with_reducible apply e_end);(simp;exact Red.rfl))|((with_reducible apply O1);rfl;(simp (disch:=omega);exact Red.rfl);exact Red.rfl;(focus (first|(simp;done)|omega|(simp;omega)))))
          (with_reducible apply e_call); (simp; exact Red.rfl); exact kC _
          rintro _ _ ⟨rfl, rfl⟩
          repeat (first|(with_reducible first|apply X1|apply X2|apply X5|apply X8)|((with_reducible apply e_end);(simp;exact Red.rfl))|((with_reducible apply O1);rfl;(simp (disch:=omega);exact Red.rfl);exact Red.rfl;(focus (first|(simp;done)|omega|(simp;omega))))|((with_reducible apply W3);(simp (disch:=omega);exact Red.rfl)))
          (with_reducible apply e_call); (simp; exact Red.rfl); exact kT _
          rintro _ _ ⟨rfl, rfl⟩
          repeat (first|(with_reducible first|apply X1|apply X2|apply X5|apply X8)|((with_reducible apply e_end);(simp;exact Red.rfl))|((with_reducible apply O1);rfl;(simp (disch:=omega);exact Red.rfl);exact Red.rfl;(focus (first|(simp;done)|omega|(simp;omega))))|((with_reducible apply W3);(simp (disch:=omega);exact Red.rfl)))
          (with_reducible apply e_call); (simp; exact Red.rfl); exact kTb _
          rintro _ _ ⟨rfl, rfl⟩
          repeat (first|(with_reducible first|apply X1|apply X2|apply X3|apply X5|apply X8)|((with_reducible apply e_end);(simp;exact Red.rfl))|((first|((with_reducible apply O1);rfl)|((with_reducible apply O2);rfl));(simp (disch:=omega) [c4];exact Red.rfl);exact Red.rfl;(focus (first|(simp;done)|omega|(simp;omega))))|((with_reducible apply W3);(simp (disch:=omega) [c4];exact Red.rfl)))
          refine q_drop (.inr rfl) (by simp; exact Red.rfl) (by simp) ⟨rfl, rfl⟩
        · skip
          refine acalls_of ok_ref05_When rfl fun hcl => ?_
          unfold ac_ref05_When
          simp only [argsT, Nat.zero_add, Nat.reduceAdd]
          repeat (first|(with_reducible first|apply X1|apply X2|apply X8)|((with_reducible apply e_end);(simp;exact Red.rfl))|((with_reducible apply O1);rfl;(simp (disch:=omega);exact Red.rfl);exact Red.rfl;(focus (first|(simp;done)|omega|(simp;omega)))))
          (with_reducible apply e_call); (simp; exact Red.rfl); exact kR _
          rintro _ _ ⟨rfl, rfl⟩
          repeat (first|(with_reducible first|apply X1|apply X2|apply X5|apply X8)|((with_reducible apply e_end);(simp;exact Red.rfl))|((with_reducible apply O1);rfl;(simp (disch:=omega);exact Red.rfl);exact Red.rfl;(focus (first|(simp;done)|omega|(simp;omega))))|((with_reducible apply W3);(simp (disch:=omega);exact Red.rfl)))
          (with_reducible apply e_call); (simp; exact Red.rfl); exact c_w5 _ j 0 ((x.nb : Int) - 1) (b := true) (by simp; omega)
          rintro _ _ ⟨rfl, rfl⟩
          repeat (first|((with_reducible apply O1);rfl;(simp (disch:=omega);exact Red.rfl);exact Red.rfl;(focus (first|(simp;done)|omega|(simp;omega))))|((with_reducible apply Z7);(simp (disch:=omega);exact Red.rfl)))
          (with_reducible apply e_call); (simp; exact Red.rfl); exact c_w5 _ rdg 0 86400000 (b := true) (by simp; omega)
          rintro _ _ ⟨rfl, rfl⟩
          repeat (first|(with_reducible first|apply X1|apply X2|apply X5|apply X8)|((with_reducible apply e_end);(simp;exact Red.rfl))|((with_reducible apply O1);rfl;(simp (disch:=omega);exact Red.rfl);exact Red.rfl;(focus (first|(simp;done)|omega|(simp;omega))))|((with_reducible apply Z7);(simp (disch:=omega);exact Red.rfl))|((with_reducible apply W3);(simp (disch:=omega);exact Red.rfl)))
          (with_reducible apply e_call); (simp; exact Red.rfl); exact kWb _
          rintro _ _ ⟨rfl, rfl⟩
          repeat (first|(with_reducible first|apply X1|apply X2|apply X3|apply X5|apply X8)|((with_reducible apply e_end);(simp;exact Red.rfl))|((first|((with_reducible apply O1);rfl)|((with_reducible apply O2);rfl));(simp (disch:=omega) [c3];exact Red.rfl);exact Red.rfl;(focus (first|(simp;done)|omega|(simp;omega))))|((with_reducible apply W3);(simp (disch:=omega) [c3];exact Red.rfl)))
          refine q_drop (.inr rfl) (by simp; exact Red.rfl) (by simp) ⟨rfl, rfl⟩
      · have e : max f l = f := by omega
        rw [e] at kTb
        have c4 : f - 1 < f := by omega
        refine ⟨0, 0, 6, by rw [eV, if_neg c3], fun H p h => ?_⟩
        have hnl := h.ln
        have kC := fun G => c_CheckB (H ++ G) x p (h.app G)
        have kR := fun G => c_rCheckB (H ++ G) x p (h.app G)
        have kT := fun G => c_tells (H ++ G) x p (h.app G) j rdg (b := true) (by simp only [true_iff]; exact c1)
        have kTb := fun G => kTb (H ++ G) p (h.app G)
        have kWb := fun G => kWb (H ++ G) p (h.app G)
        rw [h0] at kC kR
        simp only [Ln.av] at kC kR kT kTb kWb ⊢
        constructor
        · skip
          refine acalls_of ok_beam_When rfl fun hcl => ?_
          unfold ac_beam_When
          simp only [argsT, Nat.zero_add, Nat.reduceAdd]
          repeat (first|(with_reducible first|apply X1|apply X2|apply X8)|((with_reducible apply e_end);(simp;exact Red.rfl))|((with_reducible apply O1);rfl;(simp (disch:=omega);exact Red.rfl);exact Red.rfl;(focus (first|(simp;done)|omega|(simp;omega)))))
          (with_reducible apply e_call); (simp; exact Red.rfl); exact kC _
          rintro _ _ ⟨rfl, rfl⟩
          repeat (first|(with_reducible first|apply X1|apply X2|apply X5|apply X8)|((with_reducible apply e_end);(simp;exact Red.rfl))|((with_reducible apply O1);rfl;(simp (disch:=omega);exact Red.rfl);exact Red.rfl;(focus (first|(simp;done)|omega|(simp;omega))))|((with_reducible apply W3);(simp (disch:=omega);exact Red.rfl)))
          (with_reducible apply e_call); (simp; exact Red.rfl); exact kT _
          rintro _ _ ⟨rfl, rfl⟩
          repeat (first|(with_reducible first|apply X1|apply X2|apply X5|apply X8)|((with_reducible apply e_end);(simp;exact Red.rfl))|((with_reducible apply O1);rfl;(simp (disch:=omega);exact Red.rfl);exact Red.rfl;(focus (first|(simp;done)|omega|(simp;omega))))|((with_reducible apply W3);(simp (disch:=omega);exact Red.rfl)))
          (with_reducible apply e_call); (simp; exact Red.rfl); exact kTb _
          rintro _ _ ⟨rfl, rfl⟩
          repeat (first|(with_reducible first|apply X1|apply X2|apply X3|apply X8|apply X9)|((with_reducible apply e_end);(simp;exact Red.rfl))|((first|((with_reducible apply O1);rfl)|((with_reducible apply O2);rfl));(simp (disch:=omega) [c4];exact Red.rfl);exact Red.rfl;(focus (first|(simp;done)|omega|(simp;omega))))|((with_reducible apply Z9);(simp (disch:=omega) [c4];exact Red.rfl)))
          refine q_drop (.inr rfl) (by simp; exact Red.rfl) (by simp) ⟨rfl, rfl⟩
        · skip
          refine acalls_of ok_ref05_When rfl fun hcl => ?_
          unfold ac_ref05_When
          simp only [argsT, Nat.zero_add, Nat.reduceAdd]
          repeat (first|(with_reducible first|apply X1|apply X2|apply X8)|((with_reducible apply e_end);(simp;exact Red.rfl))|((with_reducible apply O1);rfl;(simp (disch:=omega);exact Red.rfl);exact Red.rfl;(focus (first|(simp;done)|omega|(simp;omega)))))
          (with_reducible apply e_call); (simp; exact Red.rfl); exact kR _
          rintro _ _ ⟨rfl, rfl⟩
          repeat (first|(with_reducible first|apply X1|apply X2|apply X5|apply X8)|((with_reducible apply e_end);(simp;exact Red.rfl))|((with_reducible apply O1);rfl;(simp (disch:=omega);exact Red.rfl);exact Red.rfl;(focus (first|(simp;done)|omega|(simp;omega))))|((with_reducible apply W3);(simp (disch:=omega);exact Red.rfl)))
          (with_reducible apply e_call); (simp; exact Red.rfl); exact c_w5 _ j 0 ((x.nb : Int) - 1) (b := true) (by simp; omega)
          rintro _ _ ⟨rfl, rfl⟩
          repeat (first|((with_reducible apply O1);rfl;(simp (disch:=omega);exact Red.rfl);exact Red.rfl;(focus (first|(simp;done)|omega|(simp;omega))))|((with_reducible apply Z7);(simp (disch:=omega);exact Red.rfl)))
          (with_reducible apply e_call); (simp; exact Red.rfl); exact c_w5 _ rdg 0 86400000 (b := true) (by simp; omega)
          rintro _ _ ⟨rfl, rfl⟩
          repeat (first|(with_reducible first|apply X1|apply X2|apply X5|apply X8)|((with_reducible apply e_end);(simp;exact Red.rfl))|((with_reducible apply O1);rfl;(simp (disch:=omega);exact Red.rfl);exact Red.rfl;(focus (first|(simp;done)|omega|(simp;omega))))|((with_reducible apply Z7);(simp (disch:=omega);exact Red.rfl))|((with_reducible apply W3);(simp (disch:=omega);exact Red.rfl)))
          (with_reducible apply e_call); (simp; exact Red.rfl); exact kWb _
          rintro _ _ ⟨rfl, rfl⟩
          repeat (first|(with_reducible first|apply X1|apply X2|apply X3|apply X8|apply X9)|((with_reducible apply e_end);(simp;exact Red.rfl))|((first|((with_reducible apply O1);rfl)|((with_reducible apply O2);rfl));(simp (disch:=omega) [c3];exact Red.rfl);exact Red.rfl;(focus (first|(simp;done)|omega|(simp;omega))))|((with_reducible apply Z9);(simp (disch:=omega) [c3];exact Red.rfl)))
          refine q_drop (.inr rfl) (by simp; exact Red.rfl) (by simp) ⟨rfl, rfl⟩
end Go.Proofs
/- The least time to a beam, by program and reference. -/
namespace Go.Proofs
open Go.Abs
attribute [local simp] AOp.den AOpd.ev lk cellsOf rd_new rd_new0 rd_zero rd_succ wr_new wr_new0 wr_zero wr_succ splice fillA binA scal sliceCells List.length_append argsT AV.sc scL AObj.sc resV getAll AR.get AOp.slots opdSlots opdsSlots partSlots eqAt at_new0 at_new set_new0 set_new wrap64
set_option linter.unusedSimpArgs false
set_option linter.unusedVariables false
theorem wyLo_bd {x : Ln} (hv : validL x.tr) {j : Nat} (hk : spW x j) : -1000000 ≤ wyLo x j ∧ wyLo x j ≤ 1000000 := by
  have sp : ∀ i, spB x i → 0 ≤ (x.bm i).lo ∧ (x.bm i).lo ≤ 30000 ∧ 0 ≤ (x.bm i).hi ∧ (x.bm i).hi ≤ 30000 ∧ (x.bm i).k.toNat < x.tr.length := fun i h => by
    obtain ⟨⟨k1, k2⟩, k3, k4, k5⟩ := h
    have hlt : (x.bm i).k.toNat < x.tr.length := by omega
    have := lLo_bd hv hlt
    exact ⟨by omega, by omega, by omega, by omega, hlt⟩
  have s1 := sp j hk.2
  unfold wyLo
  split
  · rename_i h0
    subst h0
    have hb := kind_bd kLong_ok hv (a := 0) (n := (x.bm 0).k.toNat) (by omega)
    rw [mLo_eq']
    omega
  · rename_i h0
    have s0 := sp (j - 1) (hk.1 (by omega))
    have hb := way_bd hv (a := (x.bm (j - 1)).k.toNat) (b := (x.bm j).k.toNat) (by omega) (by omega)
    omega
def lsT (x : Ln) (j : Nat) : Int := (wyLo x j * 1000 + x.fast - 1) / x.fast
section
variable (H : Heap) (x : Ln) (p : LP) (h : LnAt H x p) (hv : validL x.tr) (hok : okLn x) (j : Nat) (hj : j < x.nb)
include h hv hok hj
set_option maxHeartbeats 4000000 in
theorem c_leastB : ACalls Try.prog F.beam_line_least [.agg (x.av p), .int .i64 j] H (fun v h' => v = .int .i64 (lsT x j) ∧ h' = H) := by
  obtain ⟨l1, l2, l3⟩ := h.lt
  have hnl := h.ln
  have hPl := hok.2.2 j hj
  have kW := fun G => c_wayG (H ++ G) x p (h.app G) hv j hj hPl.1
  have bw := wyLo_bd hv hPl.1
  have hf := hok.1.1
  have h1w := hPl.2.1
  have h1 : IntKind.i64.wrap (wyLo x j * 1000) = wyLo x j * 1000 := by rw [wrap64] <;> omega
  have h2 : IntKind.i64.wrap (wyLo x j * 1000 + x.fast) = wyLo x j * 1000 + x.fast := by rw [wrap64] <;> omega
  have h3 : IntKind.i64.wrap (wyLo x j * 1000 + x.fast - 1) = wyLo x j * 1000 + x.fast - 1 := by rw [wrap64] <;> omega
  have h5 : 0 ≤ lsT x j ∧ lsT x j ≤ wyLo x j * 1000 + x.fast - 1 := ⟨Int.ediv_nonneg (by omega) (by omega), Int.ediv_le_self _ (by omega)⟩
  have h4 : IntKind.i64.wrap ((wyLo x j * 1000 + x.fast - 1).tdiv x.fast) = lsT x j := by
    rw [Int.tdiv_eq_ediv_of_nonneg (by omega)]
    have e : (wyLo x j * 1000 + x.fast - 1) / x.fast = lsT x j := rfl
    rw [e, wrap64] <;> omega
  have hne : ¬ x.fast = 0 := by omega
  simp only [Ln.av] at kW ⊢
  refine acalls_of ok_beam_line_least rfl fun hcl => ?_
  unfold ac_beam_line_least
  simp only [argsT, Nat.zero_add, Nat.reduceAdd]
  repeat (first|(with_reducible first|apply X1|apply X2|apply X8)|((with_reducible apply e_end);(simp;exact Red.rfl))|((with_reducible apply O1);rfl;(simp (disch:=omega);exact Red.rfl);exact Red.rfl;(focus (first|(simp;done)|omega|(simp;omega)))))
  (with_reducible apply e_call); (simp; exact Red.rfl); exact kW _
  rintro _ _ ⟨rfl, rfl⟩
  repeat (first|(with_reducible first|apply X1|apply X2|apply X3|apply X8)|((with_reducible apply e_end);(simp;exact Red.rfl))|((first|((with_reducible apply O1);rfl)|((with_reducible apply O2);rfl));(simp (disch:=omega) [h1, h2, h3, h4, hne];exact Red.rfl);exact Red.rfl;(focus (first|(simp;done)|omega|(simp;omega)))))
  refine q_drop (.inr rfl) (by simp; exact Red.rfl) (by simp) ⟨rfl, rfl⟩
set_option maxHeartbeats 4000000 in
theorem c_rleastB : ACalls Try.prog F.ref05_least [.agg (x.av p), .int .i64 j] H (fun v h' => v = .int .i64 (lsT x j) ∧ h' = H) := by
  obtain ⟨l1, l2, l3⟩ := h.lt
  have hnl := h.ln
  have hPl := hok.2.2 j hj
  have kW := fun G => c_rwayG (H ++ G) x p (h.app G) hv j hj hPl.1
  have bw := wyLo_bd hv hPl.1
  have hf := hok.1.1
  have h1w := hPl.2.1
  have h1 : IntKind.i64.wrap (wyLo x j * 1000) = wyLo x j * 1000 := by rw [wrap64] <;> omega
  have h2 : IntKind.i64.wrap (wyLo x j * 1000 + x.fast) = wyLo x j * 1000 + x.fast := by rw [wrap64] <;> omega
  have h3 : IntKind.i64.wrap (wyLo x j * 1000 + x.fast - 1) = wyLo x j * 1000 + x.fast - 1 := by rw [wrap64] <;> omega
  have h5 : 0 ≤ lsT x j ∧ lsT x j ≤ wyLo x j * 1000 + x.fast - 1 := ⟨Int.ediv_nonneg (by omega) (by omega), Int.ediv_le_self _ (by omega)⟩
  have h4 : IntKind.i64.wrap ((wyLo x j * 1000 + x.fast - 1).tdiv x.fast) = lsT x j := by
    rw [Int.tdiv_eq_ediv_of_nonneg (by omega)]
    have e : (wyLo x j * 1000 + x.fast - 1) / x.fast = lsT x j := rfl
    rw [e, wrap64] <;> omega
  have hne : ¬ x.fast = 0 := by omega
  simp only [Ln.av] at kW ⊢
  refine acalls_of ok_ref05_least rfl fun hcl => ?_
  unfold ac_ref05_least
  simp only [argsT, Nat.zero_add, Nat.reduceAdd]
  repeat (first|(with_reducible first|apply X1|apply X2|apply X8|apply Y9)|((with_reducible apply e_end);(simp;exact Red.rfl))|((first|((with_reducible apply O1);rfl)|((with_reducible apply P1);rfl)|((with_reducible apply P2);rfl));(simp (disch:=omega);exact Red.rfl);exact Red.rfl;(focus (first|(simp;done)|omega|(simp;omega)))))
  (with_reducible apply d_call); (simp; exact Red.rfl); exact kW _; (focus (first | (simp; done) | (simp; omega)))
  repeat (first|(with_reducible first|apply X3|apply X8)|((with_reducible apply d_end);(simp;exact Red.rfl))|((with_reducible apply P1);rfl;(simp (disch:=omega) [h1, h2, h3, h4, hne];exact Red.rfl);exact Red.rfl;(focus (first|(simp;done)|omega|(simp;omega))))|((with_reducible apply P6);rfl;(simp (disch:=omega) [h1, h2, h3, h4, hne];exact Red.rfl);exact Red.rfl;(focus (first|(simp [pr];done)|(simp [pr];omega)))))
  refine q_drop (.inr rfl) (by simp; exact Red.rfl) (by simp) ⟨rfl, rfl⟩
end
noncomputable def lsV5 (x : Ln) (bi : Int) : Int × Int :=
  open Classical in if lnE x = 0 then (if 0 ≤ bi ∧ bi ≤ (x.nb : Int) - 1 then (lsT x bi.toNat, 0) else (0, 2)) else (0, lnE x)
set_option maxHeartbeats 4000000 in
theorem least_both5 (x : Ln) (bi : Int) : ∃ a e : Int, lsV5 x bi = (a, e) ∧ ∀ (H : Heap) (p : LP), LnAt H x p →
    ACalls Try.prog F.beam_Least [.agg (x.av p), .int .i64 bi] H (fun v h' => v = .tuple [.int .i64 a, .int .i64 e] ∧ h' = H) ∧
    ACalls Try.prog F.ref05_Least [.agg (x.av p), .int .i64 bi] H (fun v h' => v = .tuple [.int .i64 a, .int .i64 e] ∧ h' = H) := by
  by_cases h0 : lnE x = 0
  rotate_left
  · refine ⟨0, lnE x, by rw [lsV5, if_neg h0], fun H p h => ?_⟩
    have kC := fun G => c_CheckB (H ++ G) x p (h.app G)
    have kR := fun G => c_rCheckB (H ++ G) x p (h.app G)
    generalize lnE x = e at *
    simp only [Ln.av] at kC kR ⊢
    constructor
    · skip
      refine acalls_of ok_beam_Least rfl fun hcl => ?_
      unfold ac_beam_Least
      simp only [argsT, Nat.zero_add, Nat.reduceAdd]
      repeat (first|(with_reducible first|apply X1|apply X2|apply X8)|((with_reducible apply e_end);(simp;exact Red.rfl))|((with_reducible apply O1);rfl;(simp (disch:=omega);exact Red.rfl);exact Red.rfl;(focus (first|(simp;done)|omega|(simp;omega)))))
      (with_reducible apply e_call); (simp; exact Red.rfl); exact kC _
      rintro _ _ ⟨rfl, rfl⟩
      repeat (first|(with_reducible first|apply X1|apply X2|apply X3|apply X8|apply X9)|((with_reducible apply e_end);(simp;exact Red.rfl))|((with_reducible apply O1);rfl;(simp (disch:=omega) [h0];exact Red.rfl);exact Red.rfl;(focus (first|(simp;done)|omega|(simp;omega))))|((with_reducible apply Z9);(simp (disch:=omega) [h0];exact Red.rfl)))
      refine q_drop (.inr rfl) (by simp; exact Red.rfl) (by simp) ⟨rfl, rfl⟩
    · skip
      refine acalls_of ok_ref05_Least rfl fun hcl => ?_
      unfold ac_ref05_Least
      simp only [argsT, Nat.zero_add, Nat.reduceAdd]
      repeat (first|(with_reducible first|apply X1|apply X2|apply X8)|((with_reducible apply e_end);(simp;exact Red.rfl))|((with_reducible apply O1);rfl;(simp (disch:=omega);exact Red.rfl);exact Red.rfl;(focus (first|(simp;done)|omega|(simp;omega)))))
      (with_reducible apply e_call); (simp; exact Red.rfl); exact kR _
      rintro _ _ ⟨rfl, rfl⟩
      repeat (first|(with_reducible first|apply X1|apply X2|apply X3|apply X8|apply X9)|((with_reducible apply e_end);(simp;exact Red.rfl))|((with_reducible apply O1);rfl;(simp (disch:=omega) [h0];exact Red.rfl);exact Red.rfl;(focus (first|(simp;done)|omega|(simp;omega))))|((with_reducible apply Z9);(simp (disch:=omega) [h0];exact Red.rfl)))
      refine q_drop (.inr rfl) (by simp; exact Red.rfl) (by simp) ⟨rfl, rfl⟩
  · obtain ⟨hv, hok⟩ := lnE_zero h0
    by_cases c1 : 0 ≤ bi ∧ bi ≤ (x.nb : Int) - 1
    rotate_left
    · refine ⟨0, 2, by rw [lsV5, if_pos h0, if_neg c1], fun H p h => ?_⟩
      have hnl := h.ln
      have kC := fun G => c_CheckB (H ++ G) x p (h.app G)
      have kR := fun G => c_rCheckB (H ++ G) x p (h.app G)
      have cI := fun G => c_indB (H ++ G) (.slice p.bid p.boff x.nb 4 p.bex) x.nb (.inr ⟨_, _, _, _, rfl⟩) (by omega)
      rw [h0] at kC kR
      simp only [Ln.av] at kC kR ⊢
      constructor
      · skip
        refine acalls_of ok_beam_Least rfl fun hcl => ?_
        unfold ac_beam_Least
        simp only [argsT, Nat.zero_add, Nat.reduceAdd]
        repeat (first|(with_reducible first|apply X1|apply X2|apply X8)|((with_reducible apply e_end);(simp;exact Red.rfl))|((with_reducible apply O1);rfl;(simp (disch:=omega);exact Red.rfl);exact Red.rfl;(focus (first|(simp;done)|omega|(simp;omega)))))
        (with_reducible apply e_call); (simp; exact Red.rfl); exact kC _
        rintro _ _ ⟨rfl, rfl⟩
        repeat (first|(with_reducible first|apply X1|apply X2|apply X5|apply X8)|((with_reducible apply e_end);(simp;exact Red.rfl))|((with_reducible apply O1);rfl;(simp (disch:=omega);exact Red.rfl);exact Red.rfl;(focus (first|(simp;done)|omega|(simp;omega))))|((with_reducible apply W3);(simp (disch:=omega);exact Red.rfl)))
        (with_reducible apply e_call); (simp; exact Red.rfl); exact cI _
        rintro _ _ ⟨rfl, rfl⟩
        repeat ((with_reducible apply O1);rfl;(simp (disch:=omega);exact Red.rfl);exact Red.rfl;(focus (first|(simp;done)|omega|(simp;omega))))
        (with_reducible apply e_call); (simp; exact Red.rfl); exact c_within1 _ 0 ((x.nb : Int) - 1) bi (H.length + 1) 0 true (b := false) (by simp) (by simp; omega)
        rintro _ _ ⟨rfl, rfl⟩
        repeat (first|(with_reducible first|apply X1|apply X2|apply X3|apply X8|apply X9)|((with_reducible apply e_end);(simp;exact Red.rfl))|((with_reducible apply O1);rfl;(simp (disch:=omega);exact Red.rfl);exact Red.rfl;(focus (first|(simp;done)|omega|(simp;omega))))|((with_reducible apply Z9);(simp (disch:=omega);exact Red.rfl)))
        refine q_drop (.inr rfl) (by simp; exact Red.rfl) (by simp) ⟨rfl, rfl⟩
      · skip
        refine acalls_of ok_ref05_Least rfl fun hcl => ?_
        unfold ac_ref05_Least
        simp only [argsT, Nat.zero_add, Nat.reduceAdd]
        repeat (first|(with_reducible first|apply X1|apply X2|apply X8)|((with_reducible apply e_end);(simp;exact Red.rfl))|((with_reducible apply O1);rfl;(simp (disch:=omega);exact Red.rfl);exact Red.rfl;(focus (first|(simp;done)|omega|(simp;omega)))))
        (with_reducible apply e_call); (simp; exact Red.rfl); exact kR _
        rintro _ _ ⟨rfl, rfl⟩
        repeat (first|(with_reducible first|apply X1|apply X2|apply X5|apply X8)|((with_reducible apply e_end);(simp;exact Red.rfl))|((with_reducible apply O1);rfl;(simp (disch:=omega);exact Red.rfl);exact Red.rfl;(focus (first|(simp;done)|omega|(simp;omega))))|((with_reducible apply W3);(simp (disch:=omega);exact Red.rfl)))
        (with_reducible apply e_call); (simp; exact Red.rfl); exact c_w5 _ bi 0 ((x.nb : Int) - 1) (b := false) (by simp; omega)
        rintro _ _ ⟨rfl, rfl⟩
        repeat (first|(with_reducible first|apply X1|apply X2|apply X3|apply X8|apply X9)|((with_reducible apply e_end);(simp;exact Red.rfl))|((with_reducible apply O1);rfl;(simp (disch:=omega);exact Red.rfl);exact Red.rfl;(focus (first|(simp;done)|omega|(simp;omega))))|((with_reducible apply Z9);(simp (disch:=omega);exact Red.rfl)))
        refine q_drop (.inr rfl) (by simp; exact Red.rfl) (by simp) ⟨rfl, rfl⟩
    · obtain ⟨j, rfl⟩ := Int.eq_ofNat_of_zero_le c1.1
      have hj : j < x.nb := by omega
      refine ⟨lsT x j, 0, by rw [lsV5, if_pos h0, if_pos c1]; rfl, fun H p h => ?_⟩
      have hnl := h.ln
      have kC := fun G => c_CheckB (H ++ G) x p (h.app G)
      have kR := fun G => c_rCheckB (H ++ G) x p (h.app G)
      have cI := fun G => c_indB (H ++ G) (.slice p.bid p.boff x.nb 4 p.bex) x.nb (.inr ⟨_, _, _, _, rfl⟩) (by omega)
      have kL := fun G => c_leastB (H ++ G) x p (h.app G) hv hok j hj
      have kM := fun G => c_rleastB (H ++ G) x p (h.app G) hv hok j hj
      rw [h0] at kC kR
      simp only [Ln.av] at kC kR kL kM ⊢
      constructor
      · skip
        refine acalls_of ok_beam_Least rfl fun hcl => ?_
        unfold ac_beam_Least
        simp only [argsT, Nat.zero_add, Nat.reduceAdd]
        repeat (first|(with_reducible first|apply X1|apply X2|apply X8)|((with_reducible apply e_end);(simp;exact Red.rfl))|((with_reducible apply O1);rfl;(simp (disch:=omega);exact Red.rfl);exact Red.rfl;(focus (first|(simp;done)|omega|(simp;omega)))))
        (with_reducible apply e_call); (simp; exact Red.rfl); exact kC _
        rintro _ _ ⟨rfl, rfl⟩
        repeat (first|(with_reducible first|apply X1|apply X2|apply X5|apply X8)|((with_reducible apply e_end);(simp;exact Red.rfl))|((with_reducible apply O1);rfl;(simp (disch:=omega);exact Red.rfl);exact Red.rfl;(focus (first|(simp;done)|omega|(simp;omega))))|((with_reducible apply W3);(simp (disch:=omega);exact Red.rfl)))
        (with_reducible apply e_call); (simp; exact Red.rfl); exact cI _
        rintro _ _ ⟨rfl, rfl⟩
        repeat ((with_reducible apply O1);rfl;(simp (disch:=omega);exact Red.rfl);exact Red.rfl;(focus (first|(simp;done)|omega|(simp;omega))))
        (with_reducible apply e_call); (simp; exact Red.rfl); exact c_within1 _ 0 ((x.nb : Int) - 1) j (H.length + 1) 0 true (b := true) (by simp) (by simp; omega)
        rintro _ _ ⟨rfl, rfl⟩
        repeat (first|(with_reducible first|apply X1|apply X2|apply X5|apply X8)|((with_reducible apply e_end);(simp;exact Red.rfl))|((with_reducible apply O1);rfl;(simp (disch:=omega);exact Red.rfl);exact Red.rfl;(focus (first|(simp;done)|omega|(simp;omega))))|((with_reducible apply W3);(simp (disch:=omega);exact Red.rfl)))
        (with_reducible apply e_call); (simp; exact Red.rfl); exact kL _
        rintro _ _ ⟨rfl, rfl⟩
        repeat (first|(with_reducible first|apply X3|apply X8)|((with_reducible apply e_end);(simp;exact Red.rfl))|((with_reducible apply O1);rfl;(simp (disch:=omega);exact Red.rfl);exact Red.rfl;(focus (first|(simp;done)|omega|(simp;omega)))))
        refine q_drop (.inr rfl) (by simp; exact Red.rfl) (by simp) ⟨rfl, rfl⟩
      · skip
        refine acalls_of ok_ref05_Least rfl fun hcl => ?_
        unfold ac_ref05_Least
        simp only [argsT, Nat.zero_add, Nat.reduceAdd]
        repeat (first|(with_reducible first|apply X1|apply X2|apply X8)|((with_reducible apply e_end);(simp;exact Red.rfl))|((with_reducible apply O1);rfl;(simp (disch:=omega);exact Red.rfl);exact Red.rfl;(focus (first|(simp;done)|omega|(simp;omega)))))
        (with_reducible apply e_call); (simp; exact Red.rfl); exact kR _
        rintro _ _ ⟨rfl, rfl⟩
        repeat (first|(with_reducible first|apply X1|apply X2|apply X5|apply X8)|((with_reducible apply e_end);(simp;exact Red.rfl))|((with_reducible apply O1);rfl;(simp (disch:=omega);exact Red.rfl);exact Red.rfl;(focus (first|(simp;done)|omega|(simp;omega))))|((with_reducible apply W3);(simp (disch:=omega);exact Red.rfl)))
        (with_reducible apply e_call); (simp; exact Red.rfl); exact c_w5 _ j 0 ((x.nb : Int) - 1) (b := true) (by simp; omega)
        rintro _ _ ⟨rfl, rfl⟩
        repeat (first|(with_reducible first|apply X1|apply X2|apply X5|apply X8)|((with_reducible apply e_end);(simp;exact Red.rfl))|((with_reducible apply O1);rfl;(simp (disch:=omega);exact Red.rfl);exact Red.rfl;(focus (first|(simp;done)|omega|(simp;omega))))|((with_reducible apply W3);(simp (disch:=omega);exact Red.rfl)))
        (with_reducible apply e_call); (simp; exact Red.rfl); exact kM _
        rintro _ _ ⟨rfl, rfl⟩
        repeat (first|(with_reducible first|apply X3|apply X8)|((with_reducible apply e_end);(simp;exact Red.rfl))|((with_reducible apply O1);rfl;(simp (disch:=omega);exact Red.rfl);exact Red.rfl;(focus (first|(simp;done)|omega|(simp;omega)))))
        refine q_drop (.inr rfl) (by simp; exact Red.rfl) (by simp) ⟨rfl, rfl⟩
def Ln.sub (x : Ln) (g : Nat → AV) : Ln := { x with cl := fun i => { x.cl i with sv := g i } }
theorem lnE_sub (x : Ln) (g : Nat → AV) : lnE (x.sub g) = lnE x := rfl
theorem ahV_sub (x : Ln) (g : Nat → AV) (ck t : Int) : ahV (x.sub g) ck t = ahV x ck t := rfl
theorem fs_sub (x : Ln) (g : Nat → AV) (i : Nat) (r : Int) : fsT ((x.sub g).cl i) r = fsT (x.cl i) r ∧ ltT ((x.sub g).cl i) r = ltT (x.cl i) r := by
  have e1 : pHi ((x.sub g).cl i) r = pHi (x.cl i) r := by funext t; rfl
  have e2 : pLo ((x.sub g).cl i) r = pLo (x.cl i) r := by funext t; rfl
  exact ⟨by rw [fsT, fsT, e1], by rw [ltT, ltT, e2]⟩
theorem whV_sub (x : Ln) (g : Nat → AV) (bi r : Int) : whV (x.sub g) bi r = whV x bi r := by
  have e1 := fun i => (fs_sub x g i r).1
  have e2 := fun i => (fs_sub x g i r).2
  simp only [whV, e1, e2, lnE_sub]
  rfl
theorem lsV_sub (x : Ln) (g : Nat → AV) (bi : Int) : lsV5 (x.sub g) bi = lsV5 x bi := rfl
theorem avR_len {k : Nat} {r : Nat → List AV} (hl : ∀ j, (r j).length = k) : ∀ n, (avR r n).length = n * k
  | 0 => by simp [avR_zero]
  | n + 1 => by rw [avR_succ, List.length_append, avR_len hl n, hl n, Nat.add_mul]; omega
theorem avR_put {k : Nat} {r r' : Nat → List AV} (hl : ∀ j, (r j).length = k) {n i c : Nat} {xs : List AV} (hi : i < n) (hc : c + xs.length ≤ k) (he : r' i = splice (r i) c xs) (hne : ∀ j, j < n → j ≠ i → r' j = r j) :
    splice (avR r n) (i * k + c) xs = avR r' n := by
  have e1 : avR r' i = avR r i := avR_congr fun j hj => hne j (by omega) (by omega)
  have e2 : avR (fun j => r' (i + 1 + j)) (n - i - 1) = avR (fun j => r (i + 1 + j)) (n - i - 1) := avR_congr fun j hj => hne _ (by omega) (by omega)
  have l1 := avR_len hl i
  have l2 := hl i
  rw [avR_split' r hi, avR_split' r' hi, e1, e2, he]
  simp only [splice]
  rw [List.take_append, List.drop_append, List.drop_append, List.take_of_length_le (by omega), l1]
  simp only [show i * k + c - i * k = c by omega, show i * k + c + xs.length - i * k = c + xs.length by omega]
  rw [List.drop_eq_nil_of_le (show (avR r i).length ≤ i * k + c + xs.length by omega), List.take_append_of_le_length (by omega), List.nil_append, l2, show c + xs.length - k = 0 by omega, List.drop_zero]
  simp only [List.append_assoc]
structure LnRd (H : Heap) (x : Ln) (p : LP) : Prop where
  tr : rd H p.tid p.toff (x.tr.length * 9) = some (x.tr.flatMap Str.av)
  cl : rd H p.cid p.coff (x.nc * 2) = some (avR (ckR x.cl) x.nc)
  sy : ∀ i, i < x.nc → SyAt H (x.cl i).sv (x.cl i).sy (x.cl i).m
  bm : rd H p.bid p.boff (x.nb * 4) = some (avR (bmR x.bm) x.nb)
theorem LnRd.at {H : Heap} {x : Ln} {p : LP} (h : LnRd H x p) (h1 : x.tr.length ≤ 20 ∧ x.nc ≤ 8 ∧ x.nb ≤ 10) (h2 : ∀ i, i < x.nc → (x.cl i).m ≤ 10) : LnAt H x p :=
  ⟨h.tr, h.cl, fun i hi => ⟨h.sy i hi, by have := h2 i hi; omega⟩, h.bm, h1⟩
set_option maxHeartbeats 4000000 in
theorem c_Great5 (H : Heap) (x : Ln) (p : LP) (h : LnRd H x p) : ACalls Try.prog F.ref05_Great [.agg (x.av p)] H (fun v h' => h' = H ∧ ∃ b : Bool, v = .bool b ∧ (b = false → (x.tr.length ≤ 20 ∧ x.nc ≤ 8 ∧ x.nb ≤ 10) ∧ ∀ i, i < x.nc → (x.cl i).m ≤ 10)) := by
  have l1 := rd_lt h.tr
  have l2 := rd_lt h.cl
  have l3 := rd_lt h.bm
  have cG := fun G => c_great (H ++ G) p.tid p.toff x.tr.length p.tex (by simp; omega)
  simp only [Ln.av]
  refine acalls_of ok_ref05_Great rfl fun hcl => ?_
  unfold ac_ref05_Great
  simp only [argsT, Nat.zero_add, Nat.reduceAdd]
  repeat (first|(with_reducible first|apply X1|apply X2|apply X8)|((with_reducible apply e_end);(simp;exact Red.rfl))|((with_reducible apply O1);rfl;(simp (disch:=omega);exact Red.rfl);exact Red.rfl;(focus (first|(simp;done)|omega|(simp;omega)))))
  (with_reducible apply e_call); (simp; exact Red.rfl); exact cG _
  rintro _ _ ⟨rfl, rfl⟩
  by_cases c1 : 20 < x.tr.length
  · repeat (first|(with_reducible first|apply X1|apply X2|apply X3|apply X8|apply X9)|((with_reducible apply e_end);(simp;exact Red.rfl))|((with_reducible apply O1);rfl;(simp (disch:=omega) [c1];exact Red.rfl);exact Red.rfl;(focus (first|(simp;done)|omega|(simp;omega))))|((with_reducible apply Z9);(simp (disch:=omega) [c1];exact Red.rfl))|((with_reducible apply Z2);(simp (disch:=omega) [c1];exact Red.rfl)))
    refine q_drop (.inr rfl) (by simp; exact Red.rfl) (by simp) ⟨rfl, true, rfl, by simp⟩
  by_cases c2 : 8 < x.nc
  · have c2' : (8 : Int) < x.nc := by omega
    repeat (first|(with_reducible first|apply X1|apply X2|apply X3|apply X8|apply X9)|((with_reducible apply e_end);(simp;exact Red.rfl))|((with_reducible apply O1);rfl;(simp (disch:=omega) [c1, c2'];exact Red.rfl);exact Red.rfl;(focus (first|(simp;done)|omega|(simp;omega))))|((with_reducible first|apply Z7|apply Z9);(simp (disch:=omega) [c1, c2'];exact Red.rfl))|((with_reducible apply Z2);(simp (disch:=omega) [c1, c2'];exact Red.rfl)))
    refine q_drop (.inr rfl) (by simp; exact Red.rfl) (by simp) ⟨rfl, true, rfl, by simp⟩
  have c2' : ¬ (8 : Int) < x.nc := by omega
  by_cases c3 : 10 < x.nb
  · have c3' : (10 : Int) < x.nb := by omega
    repeat (first|(with_reducible first|apply X1|apply X2|apply X3|apply X8|apply X9)|((with_reducible apply e_end);(simp;exact Red.rfl))|((with_reducible apply O1);rfl;(simp (disch:=omega) [c1, c2', c3'];exact Red.rfl);exact Red.rfl;(focus (first|(simp;done)|omega|(simp;omega))))|((with_reducible first|apply Z7|apply Z9);(simp (disch:=omega) [c1, c2', c3'];exact Red.rfl)))
    refine q_drop (.inr rfl) (by simp; exact Red.rfl) (by simp) ⟨rfl, true, rfl, by simp⟩
  have c3' : ¬ (10 : Int) < x.nb := by omega
  repeat (first|(with_reducible first|apply X1|apply X2|apply X5|apply X6|apply X8)|((with_reducible apply e_end);(simp;exact Red.rfl))|((with_reducible apply O1);rfl;(simp (disch:=omega) [c1, c2', c3'];exact Red.rfl);exact Red.rfl;(focus (first|(simp;done)|omega|(simp;omega))))|((with_reducible apply Z7);(simp (disch:=omega) [c1, c2', c3'];exact Red.rfl))|((with_reducible apply W3);(simp (disch:=omega) [c1, c2', c3'];exact Red.rfl)))
  refine e_loop (ι := { i : Nat // i ≤ x.nc ∧ ∀ j, j < i → (x.cl j).m ≤ 10 })
    (fun i => [(1, .ptr H.length 0), (3, .int .i64 i.1)])
    (fun _ => H ++ [.cells [.slice p.tid p.toff x.tr.length 9 p.tex, .int .i64 x.fast, .slice p.cid p.coff x.nc 2 p.cex, .slice p.bid p.boff x.nb 4 p.bex, .int .i64 x.fin, .int .i64 x.fakes, .int .i64 x.misses] true]) (fun i => x.nc - i.1) ⟨0, by omega, fun i hi => absurd hi (by omega)⟩ ?_ ?_
  · exact .inl rfl
  · rintro ⟨i, hi, hall⟩
    dsimp only
    by_cases hlt : i < x.nc
    · have hlt2 : (i : Int) < x.nc := by omega
      have ri := rd_at h.cl hlt
      rw [avR_row (k := 2) (fun _ => rfl) hlt] at ri
      have ri1 := rd_sub ri (j := 1) (m := 1) (by omega)
      simp only [ckR, List.drop_succ_cons, List.drop_zero, List.take_succ_cons, List.take_zero] at ri1
      repeat (first|(with_reducible first|apply X1|apply X2|apply X5|apply X6|apply X8)|((with_reducible apply e_end);(simp;exact Red.rfl))|((with_reducible apply O1);rfl;(simp (disch:=omega) [hlt, hlt2, rd_old _ l2, ri1];exact Red.rfl);exact Red.rfl;(focus (first|(simp;done)|omega|(simp;omega))))|((with_reducible apply Z9);(simp (disch:=omega) [hlt, hlt2, rd_old _ l2, ri1];exact Red.rfl)))
      (with_reducible apply e_op); rfl; exact den_sl (by simp) (h.sy i hlt).len; exact Red.rfl; trivial
      by_cases hm : 10 < (x.cl i).m
      · have hm2 : (10 : Int) < (x.cl i).m := by omega
        repeat (first|(with_reducible first|apply X1|apply X2|apply X3|apply X8|apply X9|apply Y3|apply Y5)|((with_reducible apply e_end);(simp;exact Red.rfl))|((with_reducible apply O1);rfl;(simp (disch:=omega) [hm2];exact Red.rfl);exact Red.rfl;(focus (first|(simp;done)|omega|(simp;omega))))|((with_reducible apply Z9);(simp (disch:=omega) [hm2];exact Red.rfl)))
        refine q_drop (.inr rfl) (by simp; exact Red.rfl) (by simp) ⟨rfl, true, rfl, by simp⟩
      · have hm2 : ¬ (10 : Int) < (x.cl i).m := by omega
        repeat (first|(with_reducible first|apply X2|apply X5|apply X8|apply Y2)|((with_reducible apply e_end);(simp;exact Red.rfl))|((with_reducible apply O1);rfl;(simp (disch:=omega) [hm2];exact Red.rfl);exact Red.rfl;(focus (first|(simp;done)|omega|(simp;omega))))|((with_reducible apply W3);(simp (disch:=omega) [hm2];exact Red.rfl)))
        exact q_again ⟨i + 1, hlt, fun j hj => by
          rcases Nat.lt_or_ge j i with h1 | h1
          · exact hall j h1
          · obtain rfl : j = i := by omega
            omega⟩ (by dsimp only; omega) (.inl (by simp))
    · obtain rfl : i = x.nc := by omega
      repeat (first|(with_reducible first|apply X1|apply X2|apply X3|apply X4|apply X8|apply Y1|apply Y4|apply Y6)|((with_reducible apply e_end);(simp;exact Red.rfl))|((with_reducible apply O1);rfl;(simp (disch:=omega);exact Red.rfl);exact Red.rfl;(focus (first|(simp;done)|omega|(simp;omega))))|((with_reducible apply W3);(simp (disch:=omega);exact Red.rfl)))
      refine q_drop (.inr rfl) (by simp; exact Red.rfl) (by simp) ⟨rfl, false, rfl, fun _ => ⟨by omega, hall⟩⟩
def clG (x : Ln) (g : Nat → AV) (i : Nat) (j : Nat) : Ck := { x.cl j with sv := if j < i then g j else (x.cl j).sv }
theorem clG_put (x : Ln) (g : Nat → AV) {i : Nat} (hi : i < x.nc) : splice (avR (ckR (clG x g i)) x.nc) (i * 2 + 1) [g i] = avR (ckR (clG x g (i + 1))) x.nc := by
  refine avR_put (k := 2) (fun _ => rfl) hi (by simp) ?_ fun j hj hne => ?_
  · simp [ckR, clG, splice]
  · simp only [ckR, clG]
    congr 2
    by_cases h : j < i
    · rw [if_pos (by omega), if_pos h]
    · rw [if_neg (by omega), if_neg h]
theorem clG_congr {x : Ln} {g g' : Nat → AV} {i : Nat} (h : ∀ j, j < i → g j = g' j) : clG x g i = clG x g' i := by
  funext j
  simp only [clG]
  by_cases hj : j < i
  · rw [if_pos hj, if_pos hj, h j hj]
  · rw [if_neg hj, if_neg hj]
theorem gStep (H G : Heap) (x : Ln) (g : Nat → AV) {i m' : Nat} {row : List AV} (hlt : i < x.nc) (e1 : m' = (x.cl i).m) (e2 : row = avR (syR (x.cl i).sy) (x.cl i).m)
    (hg : ∀ j, j < i → ∃ k, g j = .slice (H.length + 5 + k) 0 (x.cl j).m 3 false ∧ G[k]? = some (.cells (avR (syR (x.cl j).sy) (x.cl j).m) true)) :
    ∃ g', (List.take (i * 2 + 1) (avR (ckR (clG x g i)) x.nc) ++ AV.slice (H.length + (G.length + 1 + 1 + 1 + 1 + 1 + 1)) 0 m' 3 false :: List.drop (i * 2 + 1 + 1) (avR (ckR (clG x g i)) x.nc)) = avR (ckR (clG x g' (i + 1))) x.nc ∧
      ∀ j, j < i + 1 → ∃ k, g' j = .slice (H.length + 5 + k) 0 (x.cl j).m 3 false ∧ (G ++ [.dead, .cells row true])[k]? = some (.cells (avR (syR (x.cl j).sy) (x.cl j).m) true) := by
  subst e1 e2
  refine ⟨fun j => if j = i then .slice (H.length + (G.length + 1 + 1 + 1 + 1 + 1 + 1)) 0 (x.cl i).m 3 false else g j, ?_, fun j hj => ?_⟩
  · have hp := clG_put x (fun j => if j = i then .slice (H.length + (G.length + 1 + 1 + 1 + 1 + 1 + 1)) 0 (x.cl i).m 3 false else g j) hlt
    rw [← hp, clG_congr (g' := g) (fun j hj => if_neg (by omega)), if_pos rfl]
    simp only [splice, List.length_singleton, List.singleton_append, List.append_assoc]
  · by_cases hji : j = i
    · subst hji
      exact ⟨G.length + 1, by dsimp only; rw [if_pos rfl]; congr 1; omega, by simp⟩
    · obtain ⟨k, e3, e4⟩ := hg j (by omega)
      have hk : k < G.length := by
        rcases Nat.lt_or_ge k G.length with h | h
        · exact h
        · rw [List.getElem?_eq_none h] at e4; cases e4
      exact ⟨k, by dsimp only; rw [if_neg hji]; exact e3, by rw [List.getElem?_append_left hk]; exact e4⟩
set_option maxHeartbeats 8000000 in
theorem c_Twin5 (H : Heap) (x : Ln) (p : LP) (h : LnAt H x p) (hm : ∀ i, i < x.nc → (x.cl i).m ≤ 10) :
    ACalls Try.prog F.ref05_Twin [.agg (x.av p)] H (fun v h' => ∃ (g : Nat → AV) (p' : LP) (G : Heap), v = .agg ((x.sub g).av p') ∧ h' = H ++ G ∧ LnAt h' (x.sub g) p') := by
  obtain ⟨l1, l2, l3⟩ := h.lt
  have hnl := h.ln
  have cT := fun G => c_Twin (H ++ G) x.tr p.tid p.toff p.tex (by rw [rd_old _ l1]; exact h.tr) (by omega)
  have ck := h.cl
  have bk := h.bm
  have lk2 : (avR (ckR x.cl) x.nc).length = x.nc * 2 := avR_len (k := 2) (fun _ => rfl) _
  have lk4 : (avR (bmR x.bm) x.nb).length = x.nb * 4 := avR_len (k := 4) (fun _ => rfl) _
  have pk4 := (plain_bm x.bm).plain x.nb
  have sk2 : (avR (ckR x.cl) x.nc).all scal = true := by
    simp only [avR, List.all_flatMap, List.all_eq_true, List.mem_range]
    intro j hj
    intro y hy
    simp only [ckR, List.mem_cons, List.not_mem_nil, or_false] at hy
    rcases hy with rfl | rfl
    · rfl
    · exact (h.sy j hj).1.len.scal
  have z1 : x.nc * 32 ≤ 140737488355328 := by omega
  have z2 : x.nb * 32 ≤ 140737488355328 := by omega
  simp only [Ln.av]
  refine acalls_of ok_ref05_Twin rfl fun hcl => ?_
  unfold ac_ref05_Twin
  simp only [argsT, Nat.zero_add, Nat.reduceAdd]
  repeat (first|(with_reducible first|apply X1|apply X2|apply X8)|((with_reducible apply e_end);(simp;exact Red.rfl))|((with_reducible apply O1);rfl;(simp (disch:=omega);exact Red.rfl);exact Red.rfl;(focus (first|(simp;done)|omega|(simp;omega)))))
  (with_reducible apply e_call); (simp; exact Red.rfl); exact cT _
  rintro _ _ ⟨rfl, rfl⟩
  repeat (first|(with_reducible first|apply X1|apply X2|apply X6|apply X8)|((with_reducible apply e_end);(simp;exact Red.rfl))|((first|((with_reducible apply O1);rfl)|((with_reducible apply O2);rfl));(simp (disch:=omega) [rd_old _ l2, ck, lk2, sk2, z1, take_all lk2];exact Red.rfl);exact Red.rfl;(focus (first|(simp;done)|omega|(simp;omega)))))
  refine e_loop (ι := { q : Nat × (Nat → AV) × Heap // q.1 ≤ x.nc ∧ ∀ j, j < q.1 → ∃ k, q.2.1 j = .slice (H.length + 5 + k) 0 (x.cl j).m 3 false ∧ q.2.2[k]? = some (.cells (avR (syR (x.cl j).sy) (x.cl j).m) true) })
    (fun q => [(1, .ptr H.length 0), (2, .ptr (H.length + 1) 0), (3, .int .i64 q.1.1)])
    (fun q => H ++ [.cells [.slice (H.length + 2) 0 x.tr.length 9 false, .int .i64 x.fast, .slice (H.length + 4) 0 x.nc 2 false, .slice p.bid p.boff x.nb 4 p.bex, .int .i64 x.fin, .int .i64 x.fakes, .int .i64 x.misses] true, .cells [.nilslice, .int .i64 0, .nilslice, .nilslice, .int .i64 0, .int .i64 0, .int .i64 0] true, .cells (x.tr.flatMap Str.av) true, .dead, .cells (avR (ckR (clG x q.1.2.1 q.1.1)) x.nc) true] ++ q.1.2.2) (fun q => x.nc - q.1.1) ⟨(0, fun _ => .nilslice, []), by dsimp only; omega, fun j hj => absurd hj (by dsimp only at hj ⊢; omega)⟩ ?_ ?_
  · have hz : clG x (fun _ => .nilslice) 0 = x.cl := by funext j; simp [clG]
    exact .inl (by simp [hz])
  · rintro ⟨⟨i, g, G⟩, hi, hg⟩
    dsimp only at hi hg ⊢
    by_cases hlt : i < x.nc
    · have hlt2 : (i : Int) < x.nc := by omega
      have hrow : ((avR (ckR (clG x g i)) x.nc).drop (i * 2 + 1)).take 1 = [(x.cl i).sv] := by
        have := avR_row (k := 2) (r := ckR (clG x g i)) (fun _ => rfl) hlt
        rw [← List.drop_drop]
        have e : ∀ L : List AV, (L.drop 1).take 1 = (L.take 2).drop 1 := fun L => by rw [List.drop_take]
        rw [e, this]
        simp [ckR, clG]
      have lkG : (avR (ckR (clG x g i)) x.nc).length = x.nc * 2 := avR_len (k := 2) (fun _ => rfl) _
      have hm10 := hm i hlt
      have psy := (plain_sy (x.cl i).sy).plain (x.cl i).m
      have lsy : (avR (syR (x.cl i).sy) (x.cl i).m).length = (x.cl i).m * 3 := avR_len (k := 3) (fun _ => rfl) _
      have b1 : i * 2 + 1 + 1 ≤ x.nc * 2 := by omega
      have b2 : i * 2 + 1 < x.nc * 2 := by omega
      have b3 : i * 2 + 2 ≤ x.nc * 2 := by omega
      have hput := fun g => clG_put x g hlt
      rcases (h.sy i hlt).1 with ⟨hv, hm0⟩ | ⟨id, off, ex, hv, hr⟩
      · rw [hv] at hrow
        repeat (first|(with_reducible first|apply X1|apply X2|apply X5|apply X6|apply X8|apply Y9)|((with_reducible apply e_end);(simp;exact Red.rfl))|((first|((with_reducible apply O1);rfl)|((with_reducible apply P1);rfl)|((with_reducible apply P2);rfl)|((with_reducible apply P3);rfl));(simp (disch:=omega) [hlt, hlt2, hrow, lkG, b1, b2, b3];exact Red.rfl);exact Red.rfl;(focus (first|(simp;done)|omega|(simp;omega))))|((with_reducible apply Z9);(simp (disch:=omega) [hlt, hlt2, hrow, lkG, b1, b2, b3];exact Red.rfl))|((with_reducible apply P7);rfl;(simp (disch:=omega) [hlt, hlt2, hrow, lkG, b1, b2, b3];exact Red.rfl);exact Red.rfl;(focus (simp [repast, pr, AOp.sem];done))))
        (with_reducible apply d_read_); rfl; (simp (disch := omega) [hrow, lkG, b1, b2, b3]; exact Red.rfl); exact Red.rfl
        · simp
        · simp [repast, pr, AOp.sem, hrow, lkG, b1, b2, b3]
        skip
        (with_reducible apply d_do_); rfl; rfl; (simp (disch := omega) [hrow, lkG, b1, b2, b3]; exact Red.rfl); exact Red.rfl
        · (first | (simp; done) | omega | (simp; omega))
        · (first | (simp; done) | omega | (simp; omega))
        · (first | (simp; done) | omega | (simp; omega))
        · simp [recheck, pr, AOp.sem, hrow, lkG, b1, b2, b3]
        simp only [St.put]
        repeat (first|(with_reducible first|apply X2|apply X8|apply Y2)|((with_reducible first|apply e_end|apply d_end);(simp;exact Red.rfl))|((first|((with_reducible apply O1);rfl)|((with_reducible apply P1);rfl)|((with_reducible apply P4);rfl));(simp (disch:=omega) [hlt, hlt2, hrow, lkG, b1, b2, b3];exact Red.rfl);exact Red.rfl;(focus (first|(simp;done)|omega|(simp;omega)))))
        obtain ⟨g', hE, hg'⟩ := gStep H G x g hlt hm0.symm (row := []) (by rw [hm0]; rfl) hg
        rw [hE]
        exact q_again ⟨(i + 1, g', G ++ [.dead, .cells [] true]), by dsimp only; omega, hg'⟩ (by dsimp only; omega) (.inl (by simp))
      · rw [hv] at hrow
        have hid := rd_lt hr
        repeat (first|(with_reducible first|apply X1|apply X2|apply X5|apply X6|apply X8|apply Y9)|((with_reducible apply e_end);(simp;exact Red.rfl))|((first|((with_reducible apply O1);rfl)|((with_reducible apply P1);rfl)|((with_reducible apply P2);rfl)|((with_reducible apply P3);rfl));(simp (disch:=omega) [hlt, hlt2, hrow, lkG, b1, b2, b3, rd_old _ hid, hr, psy.scal, lsy];exact Red.rfl);exact Red.rfl;(focus (first|(simp;done)|omega|(simp;omega))))|((with_reducible apply Z9);(simp (disch:=omega) [hlt, hlt2, hrow, lkG, b1, b2, b3, rd_old _ hid, hr, psy.scal, lsy];exact Red.rfl))|((with_reducible apply P7);rfl;(simp (disch:=omega) [hlt, hlt2, hrow, lkG, b1, b2, b3, rd_old _ hid, hr, psy.scal, lsy];exact Red.rfl);exact Red.rfl;(focus (simp [repast, pr, AOp.sem];done))))
        (with_reducible apply d_read_); rfl; (simp (disch := omega) [hrow, lkG, b1, b2, b3]; exact Red.rfl); exact Red.rfl
        · simp
        · simp [repast, pr, AOp.sem, hrow, lkG, b1, b2, b3]
        skip
        (with_reducible apply d_do_); rfl; rfl; (simp (disch := omega) [hrow, lkG, b1, b2, b3, rd_old _ hid, hr, psy.scal, lsy, take_all lsy, show (x.cl i).m * 24 ≤ 140737488355328 by omega]; exact Red.rfl); exact Red.rfl
        · (first | (simp; done) | omega | (simp; omega))
        · (first | (simp; done) | omega | (simp; omega))
        · (first | (simp; done) | omega | (simp; omega))
        · simp [recheck, pr, AOp.sem, hrow, lkG, b1, b2, b3, rd_old _ hid, hr, psy.scal, lsy, take_all lsy, show (x.cl i).m * 24 ≤ 140737488355328 by omega]
        simp only [St.put]
        repeat (first|(with_reducible first|apply X2|apply X8|apply Y2)|((with_reducible first|apply e_end|apply d_end);(simp;exact Red.rfl))|((first|((with_reducible apply O1);rfl)|((with_reducible apply P1);rfl)|((with_reducible apply P4);rfl));(simp (disch:=omega) [hlt, hlt2, hrow, lkG, b1, b2, b3, rd_old _ hid, hr, psy.scal, lsy];exact Red.rfl);exact Red.rfl;(focus (first|(simp;done)|omega|(simp;omega)))))
        obtain ⟨g', hE, hg'⟩ := gStep H G x g hlt rfl rfl hg
        rw [hE]
        exact q_again ⟨(i + 1, g', G ++ [.dead, .cells (avR (syR (x.cl i).sy) (x.cl i).m) true]), by dsimp only; omega, hg'⟩ (by dsimp only; omega) (.inl (by simp))
    · obtain rfl : i = x.nc := by omega
      repeat (first|(with_reducible first|apply X1|apply X2|apply X3|apply X4|apply X8|apply Y1|apply Y4|apply Y6)|((with_reducible apply e_end);(simp;exact Red.rfl))|((first|((with_reducible apply O1);rfl)|((with_reducible apply O2);rfl));(simp (disch:=omega) [rd_old _ l3, bk, lk4, pk4.scal, take_all lk4, z2];exact Red.rfl);exact Red.rfl;(focus (first|(simp;done)|omega|(simp;omega))))|((with_reducible apply W3);(simp (disch:=omega) [rd_old _ l3, bk, lk4, pk4.scal, take_all lk4, z2];exact Red.rfl)))
      have hcg : avR (ckR (clG x g x.nc)) x.nc = avR (ckR (x.sub g).cl) x.nc := avR_congr fun j hj => by simp [ckR, clG, Ln.sub, hj]
      rw [hcg]
      have lkS : (avR (ckR (x.sub g).cl) x.nc).length = x.nc * 2 := avR_len (k := 2) (fun _ => rfl) _
      have lkT : (x.tr.flatMap Str.av).length = x.tr.length * 9 := by rw [flat_eq]; exact avR_len (k := 9) (fun _ => rfl) _
      refine q_stay (.inr rfl) (by simp; exact Red.rfl) ⟨g, ⟨H.length + 2, 0, false, H.length + 4, 0, false, H.length + (G.length + 1 + 1 + 1 + 1 + 1 + 1), 0, false⟩, _, rfl, rfl, ?_⟩
      refine ⟨?_, ?_, fun i hi => ⟨.inr ?_, ?_⟩, ?_, hnl⟩
      · simp [Ln.sub, lkT, take_all lkT]
      · rw [show (x.sub g).nc = x.nc from rfl]
        simp [lkS, take_all lkS]
      · obtain ⟨k, e1, e2⟩ := hg i hi
        refine ⟨_, _, _, e1, ?_⟩
        have hk : k < G.length := by
          rcases Nat.lt_or_ge k G.length with h | h
          · exact h
          · rw [List.getElem?_eq_none h] at e2; cases e2
        have lsy : (avR (syR (x.cl i).sy) (x.cl i).m).length = (x.cl i).m * 3 := avR_len (k := 3) (fun _ => rfl) _
        rw [show H.length + 5 + k = H.length + (5 + k) by omega, rd_new, show 5 + k = k + 1 + 1 + 1 + 1 + 1 by omega]
        simp only [rd_succ]
        rw [show ((x.sub g).cl i).m = (x.cl i).m from rfl, show ((x.sub g).cl i).sy = (x.cl i).sy from rfl]
        simp [rd, List.getElem?_append_left hk, e2, lsy, take_all lsy]
      · exact (h.sy i hi).2
      · rw [show (x.sub g).nb = x.nb from rfl, show (x.sub g).bm = x.bm from rfl]
        simp [lk4, take_all lk4]
end Go.Proofs
/- A copy of a line is the same line. -/
namespace Go.Proofs
open Go.Abs
attribute [local simp] AOp.den AOpd.ev lk cellsOf rd_new rd_new0 rd_zero rd_succ wr_new wr_new0 wr_zero wr_succ splice fillA binA scal sliceCells List.length_append argsT AV.sc scL AObj.sc resV getAll AR.get AOp.slots opdSlots opdsSlots partSlots eqAt at_new0 at_new set_new0 set_new wrap64
set_option linter.unusedSimpArgs false
set_option linter.unusedVariables false
set_option maxHeartbeats 8000000 in
theorem c_Same5 (H : Heap) (x : Ln) (g : Nat → AV) (p p' : LP) (h : LnAt H x p) (h' : LnAt H (x.sub g) p') :
    ACalls Try.prog F.ref05_Same [.agg ((x.sub g).av p'), .agg (x.av p)] H (fun v h2 => v = .bool true ∧ h2 = H) := by
  obtain ⟨l1, l2, l3⟩ := h.lt
  obtain ⟨k1, k2, k3⟩ := h'.lt
  have hnl := h.ln
  have cS := fun G => c_r1Same (H ++ G) x.tr p'.tid p'.toff p.tid p.toff p'.tex p.tex (by rw [rd_old _ k1]; exact h'.tr) (by rw [rd_old _ l1]; exact h.tr) (by omega)
  rw [show (x.sub g).av p' = [.slice p'.tid p'.toff x.tr.length 9 p'.tex, .int .i64 x.fast, .slice p'.cid p'.coff x.nc 2 p'.cex, .slice p'.bid p'.boff x.nb 4 p'.bex, .int .i64 x.fin, .int .i64 x.fakes, .int .i64 x.misses] from rfl]
  simp only [Ln.av]
  refine acalls_of ok_ref05_Same rfl fun hcl => ?_
  unfold ac_ref05_Same
  simp only [argsT, Nat.zero_add, Nat.reduceAdd]
  repeat (first|(with_reducible first|apply X1|apply X2|apply X8)|((with_reducible apply e_end);(simp;exact Red.rfl))|((with_reducible apply O1);rfl;(simp (disch:=omega);exact Red.rfl);exact Red.rfl;(focus (first|(simp;done)|omega|(simp;omega)))))
  (with_reducible apply e_call); (simp; exact Red.rfl); exact cS _
  rintro _ _ ⟨rfl, rfl⟩
  repeat (first|(with_reducible first|apply X1|apply X2|apply X5|apply X6|apply X8)|((with_reducible apply e_end);(simp;exact Red.rfl))|((with_reducible apply O1);rfl;(simp (disch:=omega);exact Red.rfl);exact Red.rfl;(focus (first|(simp;done)|omega|(simp;omega))))|((with_reducible apply Z7);(simp (disch:=omega);exact Red.rfl))|((with_reducible apply W3);(simp (disch:=omega);exact Red.rfl)))
  refine e_loop (ι := { q : Nat × Heap // q.1 ≤ x.nc })
    (fun q => [(2, .ptr H.length 0), (3, .ptr (H.length + 1) 0), (5, .int .i64 q.1.1)])
    (fun q => H ++ [.cells [.slice p'.tid p'.toff x.tr.length 9 p'.tex, .int .i64 x.fast, .slice p'.cid p'.coff x.nc 2 p'.cex, .slice p'.bid p'.boff x.nb 4 p'.bex, .int .i64 x.fin, .int .i64 x.fakes, .int .i64 x.misses] true, .cells [.slice p.tid p.toff x.tr.length 9 p.tex, .int .i64 x.fast, .slice p.cid p.coff x.nc 2 p.cex, .slice p.bid p.boff x.nb 4 p.bex, .int .i64 x.fin, .int .i64 x.fakes, .int .i64 x.misses] true] ++ q.1.2) (fun q => x.nc - q.1.1) ⟨(0, []), by dsimp only; omega⟩ ?_ ?_
  · exact .inl (by simp)
  · rintro ⟨⟨i, G⟩, hi⟩
    dsimp only at hi ⊢
    by_cases hlt : i < x.nc
    · have hlt2 : (i : Int) < x.nc := by omega
      have r1 : rd H p'.cid (p'.coff + i * 2) 2 = some [.int .i64 (x.cl i).dr, g i] := h'.crow hlt
      have r2 := h.crow hlt
      have s1 : SyAt H (g i) (x.cl i).sy (x.cl i).m := (h'.sy i hlt).1
      have s2 := (h.sy i hlt).1
      have mb := (h.sy i hlt).2
      have a1 := s1.len.scal
      have a2 := s2.len.scal
      have q1 : ∀ k, (g i).sc (H.length + k) = true := fun k => s1.sc (by omega)
      have q2 : ∀ k, (x.cl i).sv.sc (H.length + k) = true := fun k => s2.sc (by omega)
      repeat (first|(with_reducible first|apply X1|apply X2|apply X5|apply X6|apply X8|apply Y9)|((with_reducible apply e_end);(simp;exact Red.rfl))|((first|((with_reducible apply O1);rfl)|((with_reducible apply P1);rfl)|((with_reducible apply P2);rfl)|((with_reducible apply P3);rfl));(simp (disch:=omega) [hlt, hlt2, rd_old _ k2, rd_old _ l2, r1, r2, a1, a2];exact Red.rfl);exact Red.rfl;(focus (first|(simp;done)|omega|(simp;omega))))|((with_reducible apply Z9);(simp (disch:=omega) [hlt, hlt2, rd_old _ k2, rd_old _ l2, r1, r2, a1, a2];exact Red.rfl)))
      (with_reducible apply d_do_); rfl; rfl; (simp (disch := omega) [a1, a2]; exact Red.rfl); exact Red.rfl
      · first | (simp; done) | trivial
      · first | (simp; done) | (simp [q1, q2]; done) | (simp [AV.sc, scL, q1, q2]; done)
      · simp
      · simp [recheck, pr, AOp.sem, rd_old _ k2, rd_old _ l2, r1, r2, a1, a2, q1, q2]
      simp only [St.put]
      skip
      (with_reducible apply d_do_); rfl; rfl; (simp (disch := omega) [a1, a2]; exact Red.rfl); exact Red.rfl
      · first | (simp; done) | trivial
      · first | (simp; done) | (simp [q1, q2]; done) | (simp [AV.sc, scL, q1, q2]; done)
      · simp
      · simp [recheck, pr, AOp.sem, rd_old _ k2, rd_old _ l2, r1, r2, a1, a2, q1, q2]
      simp only [St.put]
      repeat (first|(with_reducible first|apply X1|apply X2|apply X8)|((with_reducible apply d_end);(simp;exact Red.rfl))|((with_reducible apply O1);rfl;(simp (disch:=omega) [hlt, hlt2, rd_old _ k2, rd_old _ l2, r1, r2, a1, a2];exact Red.rfl);exact Red.rfl;(focus (first|(simp;done)|omega|(simp;omega))))|((with_reducible apply Z7);(simp (disch:=omega) [hlt, hlt2, rd_old _ k2, rd_old _ l2, r1, r2, a1, a2];exact Red.rfl)))
      (with_reducible apply e_op); rfl; exact den_sl (by simp) s1.len; exact Red.rfl; trivial
      repeat (first|((with_reducible apply O1);rfl;(simp (disch:=omega) [a1, a2];exact Red.rfl);exact Red.rfl;(focus (first|(simp;done)|omega|(simp;omega))))|((with_reducible apply Z7);(simp (disch:=omega) [a1, a2];exact Red.rfl)))
      (with_reducible apply e_op); rfl; exact den_sl (by simp) s2.len; exact Red.rfl; trivial
      repeat (first|(with_reducible first|apply X1|apply X2|apply X5|apply X6|apply X8)|((with_reducible apply e_end);(simp;exact Red.rfl))|((with_reducible apply O1);rfl;(simp (disch:=omega) [a1, a2];exact Red.rfl);exact Red.rfl;(focus (first|(simp;done)|omega|(simp;omega))))|((with_reducible apply Z7);(simp (disch:=omega) [a1, a2];exact Red.rfl))|((with_reducible apply W3);(simp (disch:=omega) [a1, a2];exact Red.rfl)))
      refine e_loop (ι := { k : Nat // k ≤ (x.cl i).m })
        (fun k => [(2, .ptr H.length 0), (3, .ptr (H.length + 1) 0), (5, .int .i64 i), (6, .ptr (H.length + (G.length + 1 + 1)) 0), (7, .ptr (H.length + (G.length + 1 + 1 + 1)) 0), (8, .int .i64 k.1)])
        (fun _ => H ++ .cells [.slice p'.tid p'.toff x.tr.length 9 p'.tex, .int .i64 x.fast, .slice p'.cid p'.coff x.nc 2 p'.cex, .slice p'.bid p'.boff x.nb 4 p'.bex, .int .i64 x.fin, .int .i64 x.fakes, .int .i64 x.misses] true :: .cells [.slice p.tid p.toff x.tr.length 9 p.tex, .int .i64 x.fast, .slice p.cid p.coff x.nc 2 p.cex, .slice p.bid p.boff x.nb 4 p.bex, .int .i64 x.fin, .int .i64 x.fakes, .int .i64 x.misses] true :: (G ++ [.cells [.int .i64 (x.cl i).dr, g i] true, .cells [.int .i64 (x.cl i).dr, (x.cl i).sv] true])) (fun k => (x.cl i).m - k.1) ⟨0, by omega⟩ ?_ ?_
      · exact .inl (by simp)
      · rintro ⟨k, hk⟩
        dsimp only
        by_cases hlk : k < (x.cl i).m
        · have hlk2 : (k : Int) < (x.cl i).m := by omega
          obtain ⟨id1, off1, ex1, e1, d1, t1⟩ := s1.row (by omega)
          obtain ⟨id2, off2, ex2, e2, d2, t2⟩ := s2.row (by omega)
          have t1 := t1 k hlk
          have t2 := t2 k hlk
          rw [e1, e2]
          generalize (x.cl i).sy k = b at t1 t2
          obtain ⟨y1, y2, y3⟩ := b
          simp only [Sy.av] at t1 t2
          repeat (first|(with_reducible first|apply X1|apply X2|apply X5|apply X6|apply X8|apply Y2|apply Y9)|((with_reducible first|apply e_end|apply d_end);(simp;exact Red.rfl))|((first|((with_reducible apply O1);rfl)|((with_reducible apply P1);rfl)|((with_reducible apply P2);rfl));(simp (disch:=omega) [hlk, hlk2, rd_old _ d1, rd_old _ d2, t1, t2];exact Red.rfl);exact Red.rfl;(focus (first|(simp;done)|omega|(simp;omega))))|((with_reducible apply Z9);(simp (disch:=omega) [hlk, hlk2, rd_old _ d1, rd_old _ d2, t1, t2];exact Red.rfl))|((with_reducible apply W3);(simp (disch:=omega) [hlk, hlk2, rd_old _ d1, rd_old _ d2, t1, t2];exact Red.rfl)))
          exact q_again ⟨k + 1, hlk⟩ (by dsimp only; omega) (.inl (by simp [e1, e2]))
        · have hlk2 : ¬ (k : Int) < (x.cl i).m := by omega
          repeat (first|(with_reducible first|apply X1|apply X2)|((with_reducible apply O1);rfl;(simp (disch:=omega) [a1, a2];exact Red.rfl);exact Red.rfl;(focus (first|(simp;done)|omega|(simp;omega)))))
          (with_reducible apply e_op); rfl; exact den_sl (by simp) s1.len; exact Red.rfl; trivial
          repeat (first|(with_reducible first|apply X2|apply X4|apply X8|apply Y1|apply Y2|apply Y4|apply Y6)|((with_reducible apply e_end);(simp;exact Red.rfl))|((with_reducible apply O1);rfl;(simp (disch:=omega) [hlk2];exact Red.rfl);exact Red.rfl;(focus (first|(simp;done)|omega|(simp;omega))))|((with_reducible apply W3);(simp (disch:=omega) [hlk2];exact Red.rfl)))
          exact q_again ⟨(i + 1, G ++ [.cells [.int .i64 (x.cl i).dr, g i] true, .cells [.int .i64 (x.cl i).dr, (x.cl i).sv] true]), hlt⟩ (by dsimp only; omega) (.inl (by simp))
    · obtain rfl : i = x.nc := by omega
      repeat (first|(with_reducible first|apply X1|apply X2|apply X4|apply X6|apply X8|apply Y1|apply Y4|apply Y6)|((with_reducible apply e_end);(simp;exact Red.rfl))|((with_reducible apply O1);rfl;(simp (disch:=omega);exact Red.rfl);exact Red.rfl;(focus (first|(simp;done)|omega|(simp;omega))))|((with_reducible apply W3);(simp (disch:=omega);exact Red.rfl)))
      refine e_loop (ι := { j : Nat // j ≤ x.nb })
        (fun j => [(2, .ptr H.length 0), (3, .ptr (H.length + 1) 0), (9, .int .i64 j.1)])
        (fun q => H ++ [.cells [.slice p'.tid p'.toff x.tr.length 9 p'.tex, .int .i64 x.fast, .slice p'.cid p'.coff x.nc 2 p'.cex, .slice p'.bid p'.boff x.nb 4 p'.bex, .int .i64 x.fin, .int .i64 x.fakes, .int .i64 x.misses] true, .cells [.slice p.tid p.toff x.tr.length 9 p.tex, .int .i64 x.fast, .slice p.cid p.coff x.nc 2 p.cex, .slice p.bid p.boff x.nb 4 p.bex, .int .i64 x.fin, .int .i64 x.fakes, .int .i64 x.misses] true] ++ G) (fun j => x.nb - j.1) ⟨0, by omega⟩ ?_ ?_
      · exact .inl (by simp)
      · rintro ⟨j, hj⟩
        dsimp only
        by_cases hlb : j < x.nb
        · have hlb2 : (j : Int) < x.nb := by omega
          have r1 : rd H p'.bid (p'.boff + j * 4) 4 = some (x.bm j).av := h'.brow hlb
          have r2 := h.brow hlb
          generalize x.bm j = b at r1 r2
          obtain ⟨y1, y2, y3, y4⟩ := b
          simp only [Bm.av] at r1 r2
          repeat (first|(with_reducible first|apply X1|apply X2|apply X5|apply X6|apply X8|apply Y2|apply Y9)|((with_reducible first|apply e_end|apply d_end);(simp;exact Red.rfl))|((first|((with_reducible apply O1);rfl)|((with_reducible apply P1);rfl)|((with_reducible apply P2);rfl));(simp (disch:=omega) [hlb, hlb2, rd_old _ k3, rd_old _ l3, r1, r2];exact Red.rfl);exact Red.rfl;(focus (first|(simp;done)|omega|(simp;omega))))|((with_reducible apply Z9);(simp (disch:=omega) [hlb, hlb2, rd_old _ k3, rd_old _ l3, r1, r2];exact Red.rfl))|((with_reducible apply W3);(simp (disch:=omega) [hlb, hlb2, rd_old _ k3, rd_old _ l3, r1, r2];exact Red.rfl)))
          exact q_again ⟨j + 1, hlb⟩ (by dsimp only; omega) (.inl (by simp))
        · have hlb2 : ¬ (j : Int) < x.nb := by omega
          repeat (first|(with_reducible first|apply X1|apply X2|apply X3|apply X4|apply X8|apply Y1|apply Y4|apply Y6)|((with_reducible apply e_end);(simp;exact Red.rfl))|((with_reducible apply O1);rfl;(simp (disch:=omega) [hlb2];exact Red.rfl);exact Red.rfl;(focus (first|(simp;done)|omega|(simp;omega))))|((with_reducible apply W3);(simp (disch:=omega) [hlb2];exact Red.rfl)))
          refine q_drop (.inr rfl) (by simp; exact Red.rfl) (by simp) ⟨rfl, rfl⟩
theorem c_lawBT (H : Heap) (x : Ln) (p : LP) (sb sr ck t bi : Int) (h : LnRd H x p) :
    ACalls Try.prog F.law05_BeamTimes [.agg (x.av p), .agg [.int .i64 sb, .int .i64 sr], .int .i64 ck, .int .i64 t, .int .i64 bi] H (fun v _ => v = .bool true) := by
  have l1 := rd_lt h.tr
  have l2 := rd_lt h.cl
  have l3 := rd_lt h.bm
  have hb : ∀ G, LnRd (H ++ G) x p := fun G => ⟨by rw [rd_old _ l1]; exact h.tr, by rw [rd_old _ l2]; exact h.cl, fun i hi => (h.sy i hi).app G, by rw [rd_old _ l3]; exact h.bm⟩
  have cG := fun G => c_Great5 (H ++ G) x p (hb G)
  simp only [Ln.av] at cG ⊢
  refine acalls_of ok_law05_BeamTimes rfl fun hcl => ?_
  unfold ac_law05_BeamTimes
  simp only [argsT, Nat.zero_add, Nat.reduceAdd]
  repeat (first|(with_reducible first|apply X1|apply X2|apply X8)|((with_reducible apply e_end);(simp;exact Red.rfl))|((with_reducible apply O1);rfl;(simp (disch:=omega);exact Red.rfl);exact Red.rfl;(focus (first|(simp;done)|omega|(simp;omega)))))
  (with_reducible apply e_call); (simp; exact Red.rfl); exact cG _
  rintro v h2 ⟨rfl, b, rfl, hG⟩
  cases b
  · have hl := (hb []).at (hG rfl).1 (hG rfl).2
    rw [List.append_nil] at hl
    obtain ⟨a1, b1, e1, fA, cA⟩ := ahead_both x ck t
    obtain ⟨a2, b2, e2, fW, cW⟩ := when_both x sb sr
    obtain ⟨a3, e3, fL, cL⟩ := least_both5 x bi
    have cT := fun G => c_Twin5 (H ++ G) x p (hl.app G) (hG rfl).2
    simp only [show ∀ p, x.av p = [.slice p.tid p.toff x.tr.length 9 p.tex, .int .i64 x.fast, .slice p.cid p.coff x.nc 2 p.cex, .slice p.bid p.boff x.nb 4 p.bex, .int .i64 x.fin, .int .i64 x.fakes, .int .i64 x.misses] from fun _ => rfl] at cT cA cW cL
    repeat (first|(with_reducible first|apply X1|apply X2|apply X5|apply X8)|((with_reducible apply e_end);(simp;exact Red.rfl))|((with_reducible apply O1);rfl;(simp (disch:=omega);exact Red.rfl);exact Red.rfl;(focus (first|(simp;done)|omega|(simp;omega))))|((with_reducible apply W3);(simp (disch:=omega);exact Red.rfl)))
    (with_reducible apply e_call); (simp; exact Red.rfl); exact cT _
    rintro _ _ ⟨g, p', G, rfl, rfl, hT⟩
    obtain ⟨a1', b1', e1', fA', cA'⟩ := ahead_both (x.sub g) ck t
    obtain ⟨a2', b2', e2', fW', cW'⟩ := when_both (x.sub g) sb sr
    obtain ⟨a3', e3', fL', cL'⟩ := least_both5 (x.sub g) bi
    rw [ahV_sub, fA] at fA'
    rw [whV_sub, fW] at fW'
    rw [lsV_sub, fL] at fL'
    simp only [Prod.mk.injEq] at fA' fW' fL'
    obtain ⟨rfl, rfl, rfl⟩ := fA'
    obtain ⟨rfl, rfl, rfl⟩ := fW'
    obtain ⟨rfl, rfl⟩ := fL'
    have hLY := (hl.app [.cells [.slice p.tid p.toff x.tr.length 9 p.tex, .int .i64 x.fast, .slice p.cid p.coff x.nc 2 p.cex, .slice p.bid p.boff x.nb 4 p.bex, .int .i64 x.fin, .int .i64 x.fakes, .int .i64 x.misses] true, .cells [.int .i64 sb, .int .i64 sr] true]).app G
    have eS : (x.sub g).av p' = [.slice p'.tid p'.toff x.tr.length 9 p'.tex, .int .i64 x.fast, .slice p'.cid p'.coff x.nc 2 p'.cex, .slice p'.bid p'.boff x.nb 4 p'.bex, .int .i64 x.fin, .int .i64 x.fakes, .int .i64 x.misses] := rfl
    rw [eS]
    have f0 : H.length < (H ++ [AObj.cells [.slice p.tid p.toff x.tr.length 9 p.tex, .int .i64 x.fast, .slice p.cid p.coff x.nc 2 p.cex, .slice p.bid p.boff x.nb 4 p.bex, .int .i64 x.fin, .int .i64 x.fakes, .int .i64 x.misses] true  , AObj.cells [.int .i64 sb, .int .i64 sr] true] ++ G).length := by simp
    have f1 : H.length + 1 < (H ++ [AObj.cells [.slice p.tid p.toff x.tr.length 9 p.tex, .int .i64 x.fast, .slice p.cid p.coff x.nc 2 p.cex, .slice p.bid p.boff x.nb 4 p.bex, .int .i64 x.fin, .int .i64 x.fakes, .int .i64 x.misses] true  , AObj.cells [.int .i64 sb, .int .i64 sr] true] ++ G).length := by simp
    have g0 : rd (H ++ [AObj.cells [.slice p.tid p.toff x.tr.length 9 p.tex, .int .i64 x.fast, .slice p.cid p.coff x.nc 2 p.cex, .slice p.bid p.boff x.nb 4 p.bex, .int .i64 x.fin, .int .i64 x.fakes, .int .i64 x.misses] true  , AObj.cells [.int .i64 sb, .int .i64 sr] true] ++ G) H.length 0 7 = some [.slice p.tid p.toff x.tr.length 9 p.tex, .int .i64 x.fast, .slice p.cid p.coff x.nc 2 p.cex, .slice p.bid p.boff x.nb 4 p.bex, .int .i64 x.fin, .int .i64 x.fakes, .int .i64 x.misses] := by simp
    have g1 : rd (H ++ [AObj.cells [.slice p.tid p.toff x.tr.length 9 p.tex, .int .i64 x.fast, .slice p.cid p.coff x.nc 2 p.cex, .slice p.bid p.boff x.nb 4 p.bex, .int .i64 x.fin, .int .i64 x.fakes, .int .i64 x.misses] true  , AObj.cells [.int .i64 sb, .int .i64 sr] true] ++ G) (H.length + 1) 0 2 = some [.int .i64 sb, .int .i64 sr] := by simp
    generalize H ++ [AObj.cells [.slice p.tid p.toff x.tr.length 9 p.tex, .int .i64 x.fast, .slice p.cid p.coff x.nc 2 p.cex, .slice p.bid p.boff x.nb 4 p.bex, .int .i64 x.fin, .int .i64 x.fakes, .int .i64 x.misses] true  , AObj.cells [.int .i64 sb, .int .i64 sr] true] ++ G = Y at *
    have kA := fun Z => (cA' (Y ++ Z) p' (hT.app Z)).1
    have kA2 := fun Z => (cA (Y ++ Z) p (hLY.app Z)).2
    have kW := fun Z => (cW' (Y ++ Z) p' (hT.app Z)).1
    have kW2 := fun Z => (cW (Y ++ Z) p (hLY.app Z)).2
    have kL := fun Z => (cL' (Y ++ Z) p' (hT.app Z)).1
    have kL2 := fun Z => (cL (Y ++ Z) p (hLY.app Z)).2
    have kC := fun Z => c_CheckB (Y ++ Z) (x.sub g) p' (hT.app Z)
    have kC2 := fun Z => c_rCheckB (Y ++ Z) x p (hLY.app Z)
    have kS := fun Z => c_Same5 (Y ++ Z) x g p p' (hLY.app Z) (hT.app Z)
    rw [lnE_sub] at kC
    simp only [eS, show ∀ p, x.av p = [.slice p.tid p.toff x.tr.length 9 p.tex, .int .i64 x.fast, .slice p.cid p.coff x.nc 2 p.cex, .slice p.bid p.boff x.nb 4 p.bex, .int .i64 x.fin, .int .i64 x.fakes, .int .i64 x.misses] from fun _ => rfl] at kA kW kL kC kC2 kS
    obtain ⟨t1, t2, t3⟩ := hT.lt
    obtain ⟨t4, t5, t6⟩ := hLY.lt
    clear cA cA' cW cW' cL cL' cT cG hb hLY hT
    repeat (first|(with_reducible first|apply X1|apply X2|apply X8)|((with_reducible apply e_end);(simp;exact Red.rfl))|((first|((with_reducible apply O1);rfl)|((with_reducible apply O2);rfl));(simp (disch:=omega);exact Red.rfl);exact Red.rfl;(focus (first|(simp;done)|omega|(simp;omega)))))
    (with_reducible apply e_call); (simp; exact Red.rfl); exact kA _
    rintro _ _ ⟨rfl, rfl⟩
    repeat (first|(with_reducible first|apply X1|apply X2|apply X8)|((with_reducible apply e_end);(simp;exact Red.rfl))|((first|((with_reducible apply O1);rfl)|((with_reducible apply O2);rfl));(simp (disch:=omega) [rd_old _ f0, rd_old _ f1, g0, g1];exact Red.rfl);exact Red.rfl;(focus (first|(simp;done)|omega|(simp;omega)))))
    (with_reducible apply e_call); (simp; exact Red.rfl); exact kA2 _
    rintro _ _ ⟨rfl, rfl⟩
    repeat (first|(with_reducible first|apply X1|apply X2|apply X8)|((with_reducible apply e_end);(simp;exact Red.rfl))|((first|((with_reducible apply O1);rfl)|((with_reducible apply O2);rfl));(simp (disch:=omega) [rd_old _ f0, rd_old _ f1, g0, g1];exact Red.rfl);exact Red.rfl;(focus (first|(simp;done)|omega|(simp;omega)))))
    (with_reducible apply e_call); (simp; exact Red.rfl); exact kW _
    rintro _ _ ⟨rfl, rfl⟩
    repeat (first|(with_reducible first|apply X1|apply X2|apply X8)|((with_reducible apply e_end);(simp;exact Red.rfl))|((first|((with_reducible apply O1);rfl)|((with_reducible apply O2);rfl));(simp (disch:=omega) [rd_old _ f0, rd_old _ f1, g0, g1];exact Red.rfl);exact Red.rfl;(focus (first|(simp;done)|omega|(simp;omega)))))
    (with_reducible apply e_call); (simp; exact Red.rfl); exact kW2 _
    rintro _ _ ⟨rfl, rfl⟩
    repeat (first|(with_reducible first|apply X1|apply X2|apply X8)|((with_reducible apply e_end);(simp;exact Red.rfl))|((first|((with_reducible apply O1);rfl)|((with_reducible apply O2);rfl));(simp (disch:=omega) [rd_old _ f0, rd_old _ f1, g0, g1];exact Red.rfl);exact Red.rfl;(focus (first|(simp;done)|omega|(simp;omega)))))
    (with_reducible apply e_call); (simp; exact Red.rfl); exact kL _
    rintro _ _ ⟨rfl, rfl⟩
    repeat (first|(with_reducible first|apply X1|apply X2|apply X8)|((with_reducible apply e_end);(simp;exact Red.rfl))|((with_reducible apply O1);rfl;(simp (disch:=omega) [rd_old _ f0, rd_old _ f1, g0, g1];exact Red.rfl);exact Red.rfl;(focus (first|(simp;done)|omega|(simp;omega)))))
    (with_reducible apply e_call); (simp; exact Red.rfl); exact kL2 _
    rintro _ _ ⟨rfl, rfl⟩
    repeat (first|(with_reducible first|apply X1|apply X8|apply Y9)|((with_reducible apply e_end);(simp;exact Red.rfl))|((first|((with_reducible apply O1);rfl)|((with_reducible apply P2);rfl));(simp (disch:=omega) [rd_old _ f0, rd_old _ f1, g0, g1];exact Red.rfl);exact Red.rfl;(focus (first|(simp;done)|omega|(simp;omega)))))
    (with_reducible apply d_call); (simp; exact Red.rfl); exact kC _; (focus (first | (simp; done) | (simp; omega)))
    repeat ((with_reducible apply P6);rfl;(simp (disch:=omega) [rd_old _ f0, rd_old _ f1, g0, g1];exact Red.rfl);exact Red.rfl;(focus (first|(simp [pr];done)|(simp [pr];omega))))
    (with_reducible apply d_call); (simp; exact Red.rfl); exact kC2 _; (focus (first | (simp; done) | (simp; omega)))
    repeat (first|((first|((with_reducible apply P1);rfl)|((with_reducible apply P2);rfl));(simp (disch:=omega) [rd_old _ f0, rd_old _ f1, g0, g1];exact Red.rfl);exact Red.rfl;(focus (first|(simp;done)|omega|(simp;omega))))|((with_reducible apply Z8);(simp (disch:=omega) [rd_old _ f0, rd_old _ f1, g0, g1];exact Red.rfl)))
    (with_reducible apply d_call); (simp; exact Red.rfl); exact kS _; (focus (first | (simp; done) | (simp; omega)))
    repeat (first|(with_reducible first|apply X3|apply X8)|((with_reducible apply d_end);(simp;exact Red.rfl))|((with_reducible apply P1);rfl;(simp (disch:=omega) [rd_old _ f0, rd_old _ f1, g0, g1];exact Red.rfl);exact Red.rfl;(focus (first|(simp;done)|omega|(simp;omega)))))
    exact q_stay (.inr rfl) (by simp; exact Red.rfl) rfl
  · repeat (first|(with_reducible first|apply X1|apply X2|apply X3|apply X8|apply X9)|((with_reducible apply e_end);(simp;exact Red.rfl))|((with_reducible apply O1);rfl;(simp (disch:=omega);exact Red.rfl);exact Red.rfl;(focus (first|(simp;done)|omega|(simp;omega))))|((with_reducible apply Z9);(simp (disch:=omega);exact Red.rfl)))
    refine q_drop (.inr rfl) (by simp; exact Red.rfl) (by simp) rfl
end Go.Proofs
