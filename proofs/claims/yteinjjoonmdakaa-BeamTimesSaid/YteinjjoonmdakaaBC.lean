/- Several texts as one. -/
import Derived.Test.YteinjjoonmdakaaBB
/- Whether a line is valid, by the reference. -/
namespace Go.Proofs
open Go.Abs
attribute [local simp] AOp.den AOpd.ev lk cellsOf rd_new rd_new0 rd_zero rd_succ wr_new wr_new0 wr_zero wr_succ splice fillA binA scal sliceCells List.length_append argsT AV.sc scL AObj.sc resV getAll AR.get AOp.slots opdSlots opdsSlots partSlots eqAt at_new0 at_new set_new0 set_new wrap64
set_option linter.unusedSimpArgs false
set_option linter.unusedVariables false
theorem okPl_iff {x : Ln} : okPl x ↔ (∀ j, j < x.nb → spB x j ∧ 0 ≤ (x.bm j).ck ∧ (x.bm j).ck ≤ (x.nc : Int) - 1) ∧ ∀ j, j < x.nb → 1 ≤ wyLo x j :=
  ⟨fun h => ⟨fun j hj => ⟨(h j hj).1.2, (h j hj).2.2⟩, fun j hj => (h j hj).2.1⟩, fun h j hj => ⟨⟨fun h0 => (h.1 (j - 1) (by omega)).1, (h.1 j hj).1⟩, h.2 j hj, (h.1 j hj).2⟩⟩
set_option maxHeartbeats 8000000 in
theorem c_rLine (H : Heap) (x : Ln) (p : LP) (h : LnAt H x p) (hv : validL x.tr) {b : Bool} (hb : b = true ↔ okLn x) :
    ACalls Try.prog F.ref05_Line [.agg (x.av p)] H (fun v h' => v = .bool b ∧ h' = H) := by
  obtain ⟨l1, l2, l3⟩ := h.lt
  obtain ⟨n1, n2, n3⟩ := h.ln
  have row := fun i hi => h.brow (i := i) hi
  have crow := fun i hi => h.crow (i := i) hi
  have hno : ¬ okLn x → b = false := fun hn => by
    cases b with
    | false => rfl
    | true => exact absurd (hb.1 rfl) hn
  have kW := fun G j hj hk => c_rwayG (H ++ G) x p (h.app G) hv j hj hk
  have kS := fun G (k lo hi : Int) b hb => c_rSpot (H ++ G) x.tr p.tid p.toff p.tex k lo hi (by rw [rd_old _ l1]; exact h.tr) hv (b := b) hb
  have kC := fun G i hi => c_rclock (H ++ G) (x.cl i) ((h.sy i hi).1.app G) (h.sy i hi).2
  simp only [Ln.av] at kW ⊢
  refine acalls_of ok_ref05_Line rfl fun hcl => ?_
  unfold ac_ref05_Line
  simp only [argsT, Nat.zero_add, Nat.reduceAdd]
  by_cases a1 : 1 ≤ x.fast ∧ x.fast ≤ 5000
  rotate_left
  · obtain rfl := hno (fun h => a1 h.1.1)
    repeat (first|(with_reducible first|apply X1|apply X2|apply X8)|((with_reducible apply e_end);(simp;exact Red.rfl))|((with_reducible apply O1);rfl;(simp (disch:=omega);exact Red.rfl);exact Red.rfl;(focus (first|(simp;done)|omega|(simp;omega)))))
    (with_reducible apply e_call); (simp; exact Red.rfl); exact c_w5 _ x.fast 1 5000 (b := false) (by simp; omega)
    rintro _ _ ⟨rfl, rfl⟩
    repeat (first|(with_reducible first|apply X1|apply X2|apply X3|apply X8|apply X9)|((with_reducible apply e_end);(simp;exact Red.rfl))|((with_reducible apply O1);rfl;(simp (disch:=omega);exact Red.rfl);exact Red.rfl;(focus (first|(simp;done)|omega|(simp;omega))))|((with_reducible apply Z9);(simp (disch:=omega);exact Red.rfl))|((with_reducible apply Z2);(simp (disch:=omega);exact Red.rfl)))
    refine q_drop (.inr rfl) (by simp; exact Red.rfl) (by simp) ⟨rfl, rfl⟩
  by_cases a2 : 1 ≤ x.nc ∧ x.nc ≤ 4
  rotate_left
  · obtain rfl := hno (fun h => a2 h.1.2.1)
    repeat (first|(with_reducible first|apply X1|apply X2|apply X8)|((with_reducible apply e_end);(simp;exact Red.rfl))|((with_reducible apply O1);rfl;(simp (disch:=omega);exact Red.rfl);exact Red.rfl;(focus (first|(simp;done)|omega|(simp;omega)))))
    (with_reducible apply e_call); (simp; exact Red.rfl); exact c_w5 _ x.fast 1 5000 (b := true) (by simp; omega)
    rintro _ _ ⟨rfl, rfl⟩
    repeat (first|((with_reducible apply O1);rfl;(simp (disch:=omega);exact Red.rfl);exact Red.rfl;(focus (first|(simp;done)|omega|(simp;omega))))|((with_reducible apply Z7);(simp (disch:=omega);exact Red.rfl)))
    (with_reducible apply e_call); (simp; exact Red.rfl); exact c_w5 _ x.nc 1 4 (b := false) (by simp; omega)
    rintro _ _ ⟨rfl, rfl⟩
    repeat (first|(with_reducible first|apply X1|apply X2|apply X3|apply X8|apply X9)|((with_reducible apply e_end);(simp;exact Red.rfl))|((with_reducible apply O1);rfl;(simp (disch:=omega);exact Red.rfl);exact Red.rfl;(focus (first|(simp;done)|omega|(simp;omega))))|((with_reducible first|apply Z7|apply Z9);(simp (disch:=omega);exact Red.rfl))|((with_reducible apply Z2);(simp (disch:=omega);exact Red.rfl)))
    refine q_drop (.inr rfl) (by simp; exact Red.rfl) (by simp) ⟨rfl, rfl⟩
  by_cases a3 : 1 ≤ x.nb ∧ x.nb ≤ 6
  rotate_left
  · obtain rfl := hno (fun h => a3 h.1.2.2.1)
    repeat (first|(with_reducible first|apply X1|apply X2|apply X8)|((with_reducible apply e_end);(simp;exact Red.rfl))|((with_reducible apply O1);rfl;(simp (disch:=omega);exact Red.rfl);exact Red.rfl;(focus (first|(simp;done)|omega|(simp;omega)))))
    (with_reducible apply e_call); (simp; exact Red.rfl); exact c_w5 _ x.fast 1 5000 (b := true) (by simp; omega)
    rintro _ _ ⟨rfl, rfl⟩
    repeat (first|((with_reducible apply O1);rfl;(simp (disch:=omega);exact Red.rfl);exact Red.rfl;(focus (first|(simp;done)|omega|(simp;omega))))|((with_reducible apply Z7);(simp (disch:=omega);exact Red.rfl)))
    (with_reducible apply e_call); (simp; exact Red.rfl); exact c_w5 _ x.nc 1 4 (b := true) (by simp; omega)
    rintro _ _ ⟨rfl, rfl⟩
    repeat (first|((with_reducible apply O1);rfl;(simp (disch:=omega);exact Red.rfl);exact Red.rfl;(focus (first|(simp;done)|omega|(simp;omega))))|((with_reducible apply Z7);(simp (disch:=omega);exact Red.rfl)))
    (with_reducible apply e_call); (simp; exact Red.rfl); exact c_w5 _ x.nb 1 6 (b := false) (by simp; omega)
    rintro _ _ ⟨rfl, rfl⟩
    repeat (first|(with_reducible first|apply X1|apply X2|apply X3|apply X8|apply X9)|((with_reducible apply e_end);(simp;exact Red.rfl))|((with_reducible apply O1);rfl;(simp (disch:=omega);exact Red.rfl);exact Red.rfl;(focus (first|(simp;done)|omega|(simp;omega))))|((with_reducible first|apply Z7|apply Z9);(simp (disch:=omega);exact Red.rfl))|((with_reducible apply Z2);(simp (disch:=omega);exact Red.rfl)))
    refine q_drop (.inr rfl) (by simp; exact Red.rfl) (by simp) ⟨rfl, rfl⟩
  by_cases a4 : 0 ≤ x.fin ∧ x.fin ≤ (x.nb : Int) - 1
  rotate_left
  · obtain rfl := hno (fun h => a4 h.1.2.2.2.1)
    repeat (first|(with_reducible first|apply X1|apply X2|apply X8)|((with_reducible apply e_end);(simp;exact Red.rfl))|((with_reducible apply O1);rfl;(simp (disch:=omega);exact Red.rfl);exact Red.rfl;(focus (first|(simp;done)|omega|(simp;omega)))))
    (with_reducible apply e_call); (simp; exact Red.rfl); exact c_w5 _ x.fast 1 5000 (b := true) (by simp; omega)
    rintro _ _ ⟨rfl, rfl⟩
    repeat (first|((with_reducible apply O1);rfl;(simp (disch:=omega);exact Red.rfl);exact Red.rfl;(focus (first|(simp;done)|omega|(simp;omega))))|((with_reducible apply Z7);(simp (disch:=omega);exact Red.rfl)))
    (with_reducible apply e_call); (simp; exact Red.rfl); exact c_w5 _ x.nc 1 4 (b := true) (by simp; omega)
    rintro _ _ ⟨rfl, rfl⟩
    repeat (first|((with_reducible apply O1);rfl;(simp (disch:=omega);exact Red.rfl);exact Red.rfl;(focus (first|(simp;done)|omega|(simp;omega))))|((with_reducible apply Z7);(simp (disch:=omega);exact Red.rfl)))
    (with_reducible apply e_call); (simp; exact Red.rfl); exact c_w5 _ x.nb 1 6 (b := true) (by simp; omega)
    rintro _ _ ⟨rfl, rfl⟩
    repeat (first|((with_reducible apply O1);rfl;(simp (disch:=omega);exact Red.rfl);exact Red.rfl;(focus (first|(simp;done)|omega|(simp;omega))))|((with_reducible apply Z7);(simp (disch:=omega);exact Red.rfl)))
    (with_reducible apply e_call); (simp; exact Red.rfl); exact c_w5 _ x.fin 0 ((x.nb : Int) - 1) (b := false) (by simp; omega)
    rintro _ _ ⟨rfl, rfl⟩
    repeat (first|(with_reducible first|apply X1|apply X2|apply X3|apply X8|apply X9)|((with_reducible apply e_end);(simp;exact Red.rfl))|((with_reducible apply O1);rfl;(simp (disch:=omega);exact Red.rfl);exact Red.rfl;(focus (first|(simp;done)|omega|(simp;omega))))|((with_reducible first|apply Z7|apply Z9);(simp (disch:=omega);exact Red.rfl))|((with_reducible apply Z2);(simp (disch:=omega);exact Red.rfl)))
    refine q_drop (.inr rfl) (by simp; exact Red.rfl) (by simp) ⟨rfl, rfl⟩
  by_cases a5 : 0 ≤ x.fakes ∧ x.fakes ≤ 3
  rotate_left
  · obtain rfl := hno (fun h => a5 h.1.2.2.2.2.1)
    repeat (first|(with_reducible first|apply X1|apply X2|apply X8)|((with_reducible apply e_end);(simp;exact Red.rfl))|((with_reducible apply O1);rfl;(simp (disch:=omega);exact Red.rfl);exact Red.rfl;(focus (first|(simp;done)|omega|(simp;omega)))))
    (with_reducible apply e_call); (simp; exact Red.rfl); exact c_w5 _ x.fast 1 5000 (b := true) (by simp; omega)
    rintro _ _ ⟨rfl, rfl⟩
    repeat (first|((with_reducible apply O1);rfl;(simp (disch:=omega);exact Red.rfl);exact Red.rfl;(focus (first|(simp;done)|omega|(simp;omega))))|((with_reducible apply Z7);(simp (disch:=omega);exact Red.rfl)))
    (with_reducible apply e_call); (simp; exact Red.rfl); exact c_w5 _ x.nc 1 4 (b := true) (by simp; omega)
    rintro _ _ ⟨rfl, rfl⟩
    repeat (first|((with_reducible apply O1);rfl;(simp (disch:=omega);exact Red.rfl);exact Red.rfl;(focus (first|(simp;done)|omega|(simp;omega))))|((with_reducible apply Z7);(simp (disch:=omega);exact Red.rfl)))
    (with_reducible apply e_call); (simp; exact Red.rfl); exact c_w5 _ x.nb 1 6 (b := true) (by simp; omega)
    rintro _ _ ⟨rfl, rfl⟩
    repeat (first|((with_reducible apply O1);rfl;(simp (disch:=omega);exact Red.rfl);exact Red.rfl;(focus (first|(simp;done)|omega|(simp;omega))))|((with_reducible apply Z7);(simp (disch:=omega);exact Red.rfl)))
    (with_reducible apply e_call); (simp; exact Red.rfl); exact c_w5 _ x.fin 0 ((x.nb : Int) - 1) (b := true) (by simp; omega)
    rintro _ _ ⟨rfl, rfl⟩
    repeat (first|((with_reducible apply O1);rfl;(simp (disch:=omega);exact Red.rfl);exact Red.rfl;(focus (first|(simp;done)|omega|(simp;omega))))|((with_reducible apply Z7);(simp (disch:=omega);exact Red.rfl)))
    (with_reducible apply e_call); (simp; exact Red.rfl); exact c_w5 _ x.fakes 0 3 (b := false) (by simp; omega)
    rintro _ _ ⟨rfl, rfl⟩
    repeat (first|(with_reducible first|apply X1|apply X2|apply X3|apply X8|apply X9)|((with_reducible apply e_end);(simp;exact Red.rfl))|((with_reducible apply O1);rfl;(simp (disch:=omega);exact Red.rfl);exact Red.rfl;(focus (first|(simp;done)|omega|(simp;omega))))|((with_reducible first|apply Z7|apply Z9);(simp (disch:=omega);exact Red.rfl))|((with_reducible apply Z2);(simp (disch:=omega);exact Red.rfl)))
    refine q_drop (.inr rfl) (by simp; exact Red.rfl) (by simp) ⟨rfl, rfl⟩
  by_cases a6 : 0 ≤ x.misses ∧ x.misses ≤ 3
  rotate_left
  · obtain rfl := hno (fun h => a6 h.1.2.2.2.2.2)
    repeat (first|(with_reducible first|apply X1|apply X2|apply X8)|((with_reducible apply e_end);(simp;exact Red.rfl))|((with_reducible apply O1);rfl;(simp (disch:=omega);exact Red.rfl);exact Red.rfl;(focus (first|(simp;done)|omega|(simp;omega)))))
    (with_reducible apply e_call); (simp; exact Red.rfl); exact c_w5 _ x.fast 1 5000 (b := true) (by simp; omega)
    rintro _ _ ⟨rfl, rfl⟩
    repeat (first|((with_reducible apply O1);rfl;(simp (disch:=omega);exact Red.rfl);exact Red.rfl;(focus (first|(simp;done)|omega|(simp;omega))))|((with_reducible apply Z7);(simp (disch:=omega);exact Red.rfl)))
    (with_reducible apply e_call); (simp; exact Red.rfl); exact c_w5 _ x.nc 1 4 (b := true) (by simp; omega)
    rintro _ _ ⟨rfl, rfl⟩
    repeat (first|((with_reducible apply O1);rfl;(simp (disch:=omega);exact Red.rfl);exact Red.rfl;(focus (first|(simp;done)|omega|(simp;omega))))|((with_reducible apply Z7);(simp (disch:=omega);exact Red.rfl)))
    (with_reducible apply e_call); (simp; exact Red.rfl); exact c_w5 _ x.nb 1 6 (b := true) (by simp; omega)
    rintro _ _ ⟨rfl, rfl⟩
    repeat (first|((with_reducible apply O1);rfl;(simp (disch:=omega);exact Red.rfl);exact Red.rfl;(focus (first|(simp;done)|omega|(simp;omega))))|((with_reducible apply Z7);(simp (disch:=omega);exact Red.rfl)))
    (with_reducible apply e_call); (simp; exact Red.rfl); exact c_w5 _ x.fin 0 ((x.nb : Int) - 1) (b := true) (by simp; omega)
    rintro _ _ ⟨rfl, rfl⟩
    repeat (first|((with_reducible apply O1);rfl;(simp (disch:=omega);exact Red.rfl);exact Red.rfl;(focus (first|(simp;done)|omega|(simp;omega))))|((with_reducible apply Z7);(simp (disch:=omega);exact Red.rfl)))
    (with_reducible apply e_call); (simp; exact Red.rfl); exact c_w5 _ x.fakes 0 3 (b := true) (by simp; omega)
    rintro _ _ ⟨rfl, rfl⟩
    repeat (first|((with_reducible apply O1);rfl;(simp (disch:=omega);exact Red.rfl);exact Red.rfl;(focus (first|(simp;done)|omega|(simp;omega))))|((with_reducible apply Z7);(simp (disch:=omega);exact Red.rfl)))
    (with_reducible apply e_call); (simp; exact Red.rfl); exact c_w5 _ x.misses 0 3 (b := false) (by simp; omega)
    rintro _ _ ⟨rfl, rfl⟩
    repeat (first|(with_reducible first|apply X1|apply X2|apply X3|apply X8|apply X9)|((with_reducible apply e_end);(simp;exact Red.rfl))|((with_reducible apply O1);rfl;(simp (disch:=omega);exact Red.rfl);exact Red.rfl;(focus (first|(simp;done)|omega|(simp;omega))))|((with_reducible first|apply Z7|apply Z9);(simp (disch:=omega);exact Red.rfl)))
    refine q_drop (.inr rfl) (by simp; exact Red.rfl) (by simp) ⟨rfl, rfl⟩
  repeat (first|(with_reducible first|apply X1|apply X2|apply X8)|((with_reducible apply e_end);(simp;exact Red.rfl))|((with_reducible apply O1);rfl;(simp (disch:=omega);exact Red.rfl);exact Red.rfl;(focus (first|(simp;done)|omega|(simp;omega)))))
  (with_reducible apply e_call); (simp; exact Red.rfl); exact c_w5 _ x.fast 1 5000 (b := true) (by simp; omega)
  rintro _ _ ⟨rfl, rfl⟩
  repeat (first|((with_reducible apply O1);rfl;(simp (disch:=omega);exact Red.rfl);exact Red.rfl;(focus (first|(simp;done)|omega|(simp;omega))))|((with_reducible apply Z7);(simp (disch:=omega);exact Red.rfl)))
  (with_reducible apply e_call); (simp; exact Red.rfl); exact c_w5 _ x.nc 1 4 (b := true) (by simp; omega)
  rintro _ _ ⟨rfl, rfl⟩
  repeat (first|((with_reducible apply O1);rfl;(simp (disch:=omega);exact Red.rfl);exact Red.rfl;(focus (first|(simp;done)|omega|(simp;omega))))|((with_reducible apply Z7);(simp (disch:=omega);exact Red.rfl)))
  (with_reducible apply e_call); (simp; exact Red.rfl); exact c_w5 _ x.nb 1 6 (b := true) (by simp; omega)
  rintro _ _ ⟨rfl, rfl⟩
  repeat (first|((with_reducible apply O1);rfl;(simp (disch:=omega);exact Red.rfl);exact Red.rfl;(focus (first|(simp;done)|omega|(simp;omega))))|((with_reducible apply Z7);(simp (disch:=omega);exact Red.rfl)))
  (with_reducible apply e_call); (simp; exact Red.rfl); exact c_w5 _ x.fin 0 ((x.nb : Int) - 1) (b := true) (by simp; omega)
  rintro _ _ ⟨rfl, rfl⟩
  repeat (first|((with_reducible apply O1);rfl;(simp (disch:=omega);exact Red.rfl);exact Red.rfl;(focus (first|(simp;done)|omega|(simp;omega))))|((with_reducible apply Z7);(simp (disch:=omega);exact Red.rfl)))
  (with_reducible apply e_call); (simp; exact Red.rfl); exact c_w5 _ x.fakes 0 3 (b := true) (by simp; omega)
  rintro _ _ ⟨rfl, rfl⟩
  repeat (first|((with_reducible apply O1);rfl;(simp (disch:=omega);exact Red.rfl);exact Red.rfl;(focus (first|(simp;done)|omega|(simp;omega))))|((with_reducible apply Z7);(simp (disch:=omega);exact Red.rfl)))
  (with_reducible apply e_call); (simp; exact Red.rfl); exact c_w5 _ x.misses 0 3 (b := true) (by simp; omega)
  rintro _ _ ⟨rfl, rfl⟩
  repeat (first|(with_reducible first|apply X1|apply X2|apply X5|apply X6|apply X8)|((with_reducible apply e_end);(simp;exact Red.rfl))|((with_reducible apply O1);rfl;(simp (disch:=omega);exact Red.rfl);exact Red.rfl;(focus (first|(simp;done)|omega|(simp;omega))))|((with_reducible apply Z7);(simp (disch:=omega);exact Red.rfl))|((with_reducible apply W3);(simp (disch:=omega);exact Red.rfl)))
  refine e_loop (ι := { i : Nat // i ≤ x.nc ∧ ∀ j, j < i → okX (x.cl j) })
    (fun i => [(1, .ptr H.length 0), (3, .int .i64 i.1)])
    (fun _ => H ++ [.cells [.slice p.tid p.toff x.tr.length 9 p.tex, .int .i64 x.fast, .slice p.cid p.coff x.nc 2 p.cex, .slice p.bid p.boff x.nb 4 p.bex, .int .i64 x.fin, .int .i64 x.fakes, .int .i64 x.misses] true]) (fun i => x.nc - i.1) ⟨0, by omega, fun i hi => absurd hi (by omega)⟩ ?_ ?_
  · exact .inl rfl
  · rintro ⟨i, hi, hall⟩
    dsimp only
    by_cases hlt : i < x.nc
    · have hlt2 : (i : Int) < x.nc := by omega
      have hno2 : ¬ okX (x.cl i) → b = false := fun hn => hno (fun h => hn (h.2.1 i hlt))
      have ri := crow i hlt
      have cC := fun G => kC G i hlt
      repeat (first|(with_reducible first|apply X1|apply X2|apply X5|apply X6|apply X8)|((with_reducible apply e_end);(simp;exact Red.rfl))|((with_reducible apply O1);rfl;(simp (disch:=omega) [hlt, hlt2, rd_old _ l2, ri];exact Red.rfl);exact Red.rfl;(focus (first|(simp;done)|omega|(simp;omega))))|((with_reducible apply Z9);(simp (disch:=omega) [hlt, hlt2, rd_old _ l2, ri];exact Red.rfl)))
      (with_reducible apply e_call); (simp; exact Red.rfl); exact cC _
      rintro _ _ ⟨rfl, c, rfl, hc⟩
      cases c with
      | false =>
        obtain rfl := hno2 (fun h => by have := hc.2 h; cases this)
        repeat (first|(with_reducible first|apply X1|apply X2|apply X3|apply X8|apply X9|apply Y3|apply Y5)|((with_reducible apply e_end);(simp;exact Red.rfl))|((with_reducible apply O1);rfl;(simp (disch:=omega);exact Red.rfl);exact Red.rfl;(focus (first|(simp;done)|omega|(simp;omega))))|((with_reducible apply Z9);(simp (disch:=omega);exact Red.rfl)))
        refine q_drop (.inr rfl) (by simp; exact Red.rfl) (by simp) ⟨rfl, rfl⟩
      | true =>
        have hok := hc.1 rfl
        repeat (first|(with_reducible first|apply X2|apply X5|apply X8|apply Y2)|((with_reducible apply e_end);(simp;exact Red.rfl))|((with_reducible apply O1);rfl;(simp (disch:=omega);exact Red.rfl);exact Red.rfl;(focus (first|(simp;done)|omega|(simp;omega))))|((with_reducible apply W3);(simp (disch:=omega);exact Red.rfl)))
        exact q_again ⟨i + 1, hlt, fun j hj => by
          rcases Nat.lt_or_ge j i with h1 | h1
          · exact hall j h1
          · obtain rfl : j = i := by omega
            exact hok⟩ (by dsimp only; omega) (.inl (by simp))
    · obtain rfl : i = x.nc := by omega
      repeat (first|(with_reducible first|apply X1|apply X2|apply X4|apply X6|apply X8|apply Y1|apply Y4|apply Y6)|((with_reducible apply e_end);(simp;exact Red.rfl))|((with_reducible apply O1);rfl;(simp (disch:=omega);exact Red.rfl);exact Red.rfl;(focus (first|(simp;done)|omega|(simp;omega))))|((with_reducible apply W3);(simp (disch:=omega);exact Red.rfl)))
      refine e_loop (ι := { j : Nat // j ≤ x.nb ∧ ∀ i, i < j → spB x i ∧ 0 ≤ (x.bm i).ck ∧ (x.bm i).ck ≤ (x.nc : Int) - 1 })
        (fun j => [(1, .ptr H.length 0), (4, .int .i64 j.1)])
        (fun _ => H ++ [.cells [.slice p.tid p.toff x.tr.length 9 p.tex, .int .i64 x.fast, .slice p.cid p.coff x.nc 2 p.cex, .slice p.bid p.boff x.nb 4 p.bex, .int .i64 x.fin, .int .i64 x.fakes, .int .i64 x.misses] true]) (fun j => x.nb - j.1) ⟨0, by omega, fun i hi => absurd hi (by omega)⟩ ?_ ?_
      · exact .inl rfl
      · rintro ⟨j, hj, hbs⟩
        dsimp only
        by_cases hlj : j < x.nb
        · have hlj2 : (j : Int) < x.nb := by omega
          have hno3 : ¬ (spB x j ∧ 0 ≤ (x.bm j).ck ∧ (x.bm j).ck ≤ (x.nc : Int) - 1) → b = false := fun hn => hno (fun h => hn ((okPl_iff.1 h.2.2).1 j hlj))
          have r0 := rd_sub (row j hlj) (j := 0) (m := 3) (by omega)
          have r3 := rd_sub (row j hlj) (j := 3) (m := 1) (by omega)
          simp only [Bm.av, Nat.add_zero, List.drop_succ_cons, List.drop_zero, List.take_succ_cons, List.take_zero] at r0 r3
          repeat (first|(with_reducible first|apply X1|apply X2|apply X5|apply X6|apply X8|apply Y9)|((with_reducible apply e_end);(simp;exact Red.rfl))|((first|((with_reducible apply O1);rfl)|((with_reducible apply P1);rfl)|((with_reducible apply P2);rfl));(simp (disch:=omega) [hlj, hlj2, rd_old _ l3, r0, r3];exact Red.rfl);exact Red.rfl;(focus (first|(simp;done)|omega|(simp;omega))))|((with_reducible apply Z9);(simp (disch:=omega) [hlj, hlj2, rd_old _ l3, r0, r3];exact Red.rfl)))
          by_cases s1 : spB x j
          rotate_left
          · obtain rfl := hno3 (fun h => s1 h.1)
            (with_reducible apply d_call); (simp; exact Red.rfl); exact kS _ _ _ _ false (by simp; exact s1); (focus (first | (simp; done) | (simp; omega)))
            repeat (first|(with_reducible first|apply X1|apply X2|apply X3|apply X8|apply X9|apply Y3|apply Y5)|((with_reducible first|apply e_end|apply d_end);(simp;exact Red.rfl))|((first|((with_reducible apply O1);rfl)|((with_reducible apply P1);rfl));(simp (disch:=omega);exact Red.rfl);exact Red.rfl;(focus (first|(simp;done)|omega|(simp;omega))))|((with_reducible apply Z9);(simp (disch:=omega);exact Red.rfl))|((with_reducible apply Z6);(simp (disch:=omega);exact Red.rfl)))
            refine q_drop (.inr rfl) (by simp; exact Red.rfl) (by simp) ⟨rfl, rfl⟩
          · (with_reducible apply d_call); (simp; exact Red.rfl); exact kS _ _ _ _ true (by simp; exact s1); (focus (first | (simp; done) | (simp; omega)))
            repeat (first|((first|((with_reducible apply P1);rfl)|((with_reducible apply P2);rfl));(simp (disch:=omega) [hlj, hlj2, rd_old _ l3, r0, r3];exact Red.rfl);exact Red.rfl;(focus (first|(simp;done)|omega|(simp;omega))))|((with_reducible apply Z8);(simp (disch:=omega) [hlj, hlj2, rd_old _ l3, r0, r3];exact Red.rfl)))
            by_cases s2 : 0 ≤ (x.bm j).ck ∧ (x.bm j).ck ≤ (x.nc : Int) - 1
            rotate_left
            · obtain rfl := hno3 (fun h => s2 h.2)
              (with_reducible apply d_call); (simp; exact Red.rfl); exact c_w5 _ (x.bm j).ck 0 ((x.nc : Int) - 1) (b := false) (by simp; omega); (focus (first | (simp; done) | (simp; omega)))
              repeat (first|(with_reducible first|apply X1|apply X2|apply X3|apply X8|apply X9|apply Y3|apply Y5)|((with_reducible first|apply e_end|apply d_end);(simp;exact Red.rfl))|((first|((with_reducible apply O1);rfl)|((with_reducible apply P1);rfl));(simp (disch:=omega);exact Red.rfl);exact Red.rfl;(focus (first|(simp;done)|omega|(simp;omega))))|((with_reducible first|apply Z8|apply Z9);(simp (disch:=omega);exact Red.rfl)))
              refine q_drop (.inr rfl) (by simp; exact Red.rfl) (by simp) ⟨rfl, rfl⟩
            · (with_reducible apply d_call); (simp; exact Red.rfl); exact c_w5 _ (x.bm j).ck 0 ((x.nc : Int) - 1) (b := true) (by simp; omega); (focus (first | (simp; done) | (simp; omega)))
              repeat (first|(with_reducible first|apply X2|apply X5|apply X8|apply Y2)|((with_reducible first|apply e_end|apply d_end);(simp;exact Red.rfl))|((first|((with_reducible apply O1);rfl)|((with_reducible apply P1);rfl));(simp (disch:=omega);exact Red.rfl);exact Red.rfl;(focus (first|(simp;done)|omega|(simp;omega))))|((with_reducible apply Z8);(simp (disch:=omega);exact Red.rfl))|((with_reducible apply W3);(simp (disch:=omega);exact Red.rfl)))
              exact q_again ⟨j + 1, hlj, fun i hi => by
                rcases Nat.lt_or_ge i j with h1 | h1
                · exact hbs i h1
                · obtain rfl : i = j := by omega
                  exact ⟨s1, s2⟩⟩ (by dsimp only; omega) (.inl (by simp))
        · obtain rfl : j = x.nb := by omega
          repeat (first|(with_reducible first|apply X1|apply X2|apply X4|apply X6|apply X8|apply Y1|apply Y4|apply Y6)|((with_reducible apply e_end);(simp;exact Red.rfl))|((with_reducible apply O1);rfl;(simp (disch:=omega);exact Red.rfl);exact Red.rfl;(focus (first|(simp;done)|omega|(simp;omega))))|((with_reducible apply W3);(simp (disch:=omega);exact Red.rfl)))
          refine e_loop (ι := { j : Nat // j ≤ x.nb ∧ ∀ i, i < j → 1 ≤ wyLo x i })
            (fun j => [(1, .ptr H.length 0), (5, .int .i64 j.1)])
            (fun _ => H ++ [.cells [.slice p.tid p.toff x.tr.length 9 p.tex, .int .i64 x.fast, .slice p.cid p.coff x.nc 2 p.cex, .slice p.bid p.boff x.nb 4 p.bex, .int .i64 x.fin, .int .i64 x.fakes, .int .i64 x.misses] true]) (fun j => x.nb - j.1) ⟨0, by omega, fun i hi => absurd hi (by omega)⟩ ?_ ?_
          · exact .inl rfl
          · rintro ⟨k, hk, hws⟩
            dsimp only
            by_cases hlk : k < x.nb
            · have hlk2 : (k : Int) < x.nb := by omega
              have hno4 : ¬ 1 ≤ wyLo x k → b = false := fun hn => hno (fun h => hn ((okPl_iff.1 h.2.2).2 k hlk))
              have hsw : spW x k := ⟨fun h0 => (hbs (k - 1) (by omega)).1, (hbs k hlk).1⟩
              repeat (first|(with_reducible first|apply X1|apply X2|apply X5|apply X6|apply X8)|((with_reducible apply e_end);(simp;exact Red.rfl))|((with_reducible apply O1);rfl;(simp (disch:=omega) [hlk, hlk2];exact Red.rfl);exact Red.rfl;(focus (first|(simp;done)|omega|(simp;omega))))|((with_reducible apply Z9);(simp (disch:=omega) [hlk, hlk2];exact Red.rfl)))
              (with_reducible apply e_call); (simp; exact Red.rfl); exact kW _ k hlk hsw
              rintro _ _ ⟨rfl, rfl⟩
              by_cases hw : wyLo x k < 1
              · obtain rfl := hno4 (by omega)
                repeat (first|(with_reducible first|apply X1|apply X2|apply X3|apply X8|apply X9|apply Y3|apply Y5)|((with_reducible apply e_end);(simp;exact Red.rfl))|((with_reducible apply O1);rfl;(simp (disch:=omega) [hw];exact Red.rfl);exact Red.rfl;(focus (first|(simp;done)|omega|(simp;omega))))|((with_reducible apply Z9);(simp (disch:=omega) [hw];exact Red.rfl)))
                refine q_drop (.inr rfl) (by simp; exact Red.rfl) (by simp) ⟨rfl, rfl⟩
              · repeat (first|(with_reducible first|apply X2|apply X5|apply X8|apply Y2)|((with_reducible apply e_end);(simp;exact Red.rfl))|((with_reducible apply O1);rfl;(simp (disch:=omega) [hw];exact Red.rfl);exact Red.rfl;(focus (first|(simp;done)|omega|(simp;omega))))|((with_reducible apply W3);(simp (disch:=omega) [hw];exact Red.rfl)))
                exact q_again ⟨k + 1, hlk, fun i hi => by
                  rcases Nat.lt_or_ge i k with h1 | h1
                  · exact hws i h1
                  · obtain rfl : i = k := by omega
                    omega⟩ (by dsimp only; omega) (.inl (by simp))
            · obtain rfl : k = x.nb := by omega
              obtain rfl : b = true := hb.2 ⟨⟨a1, a2, a3, a4, a5, a6⟩, hall, okPl_iff.2 ⟨hbs, hws⟩⟩
              repeat (first|(with_reducible first|apply X1|apply X2|apply X3|apply X4|apply X8|apply Y1|apply Y4|apply Y6)|((with_reducible apply e_end);(simp;exact Red.rfl))|((with_reducible apply O1);rfl;(simp (disch:=omega);exact Red.rfl);exact Red.rfl;(focus (first|(simp;done)|omega|(simp;omega))))|((with_reducible apply W3);(simp (disch:=omega);exact Red.rfl)))
              refine q_drop (.inr rfl) (by simp; exact Red.rfl) (by simp) ⟨rfl, rfl⟩
theorem c_rCheckB (H : Heap) (x : Ln) (p : LP) (h : LnAt H x p) :
    ACalls Try.prog F.ref05_Check [.agg (x.av p)] H (fun v h' => v = .int .i64 (lnE x) ∧ h' = H) := by
  obtain ⟨l1, l2, l3⟩ := h.lt
  obtain ⟨n1, n2, n3⟩ := h.ln
  have cT := fun G => c_rTrack (H ++ G) x.tr p.tid p.toff p.tex (by rw [rd_old _ l1]; exact h.tr) (by omega)
  have kL := fun G hv b hb => c_rLine (H ++ G) x p (h.app G) hv (b := b) hb
  simp only [Ln.av] at kL ⊢
  refine acalls_of ok_ref05_Check rfl fun hcl => ?_
  unfold ac_ref05_Check
  simp only [argsT, Nat.zero_add, Nat.reduceAdd]
  repeat (first|(with_reducible first|apply X1|apply X2|apply X8)|((with_reducible apply e_end);(simp;exact Red.rfl))|((with_reducible apply O1);rfl;(simp (disch:=omega);exact Red.rfl);exact Red.rfl;(focus (first|(simp;done)|omega|(simp;omega)))))
  (with_reducible apply e_call); (simp; exact Red.rfl); exact cT _
  rintro _ _ ⟨rfl, b, rfl, hb⟩
  cases b with
  | false =>
    rw [lnE_bad (fun h => by have := hb.2 h; cases this)]
    repeat (first|(with_reducible first|apply X1|apply X2|apply X3|apply X8|apply X9)|((with_reducible apply e_end);(simp;exact Red.rfl))|((with_reducible apply O1);rfl;(simp (disch:=omega);exact Red.rfl);exact Red.rfl;(focus (first|(simp;done)|omega|(simp;omega))))|((with_reducible apply Z9);(simp (disch:=omega);exact Red.rfl)))
    refine q_drop (.inr rfl) (by simp; exact Red.rfl) (by simp) ⟨rfl, rfl⟩
  | true =>
    have hv := hb.1 rfl
    repeat (first|(with_reducible first|apply X1|apply X2|apply X5|apply X8)|((with_reducible apply e_end);(simp;exact Red.rfl))|((with_reducible apply O1);rfl;(simp (disch:=omega);exact Red.rfl);exact Red.rfl;(focus (first|(simp;done)|omega|(simp;omega))))|((with_reducible apply W3);(simp (disch:=omega);exact Red.rfl)))
    obtain ⟨b, hb2⟩ := dec_b (okLn x)
    (with_reducible apply e_call); (simp; exact Red.rfl); exact kL _ hv b hb2
    rintro _ _ ⟨rfl, rfl⟩
    cases b with
    | false =>
      rw [lnE_no hv (fun h => by have := hb2.2 h; cases this)]
      repeat (first|(with_reducible first|apply X1|apply X2|apply X3|apply X8|apply X9)|((with_reducible apply e_end);(simp;exact Red.rfl))|((with_reducible apply O1);rfl;(simp (disch:=omega);exact Red.rfl);exact Red.rfl;(focus (first|(simp;done)|omega|(simp;omega))))|((with_reducible apply Z9);(simp (disch:=omega);exact Red.rfl)))
      refine q_drop (.inr rfl) (by simp; exact Red.rfl) (by simp) ⟨rfl, rfl⟩
    | true =>
      rw [lnE_ok hv (hb2.1 rfl)]
      repeat (first|(with_reducible first|apply X1|apply X2|apply X3|apply X5|apply X8)|((with_reducible apply e_end);(simp;exact Red.rfl))|((with_reducible apply O1);rfl;(simp (disch:=omega);exact Red.rfl);exact Red.rfl;(focus (first|(simp;done)|omega|(simp;omega))))|((with_reducible apply W3);(simp (disch:=omega);exact Red.rfl)))
      refine q_drop (.inr rfl) (by simp; exact Red.rfl) (by simp) ⟨rfl, rfl⟩
theorem okX_sy {c : Ck} {H : Heap} (h : okX c) (hs : SyAt H c.sv c.sy c.m) : ∃ sid soff ex, c.sv = .slice sid soff c.m 3 ex ∧ rd H sid soff (c.m * 3) = some (avR (syR c.sy) c.m) := by
  rcases hs with ⟨_, h0⟩ | h1
  · have := h.1.2.1; omega
  · exact h1
noncomputable def ahV (x : Ln) (ck t : Int) : Int × Int × Int :=
  open Classical in if lnE x = 0 then (if (0 ≤ ck ∧ ck ≤ (x.nc : Int) - 1) ∧ 0 ≤ t ∧ t ≤ 86400000 then (ahLo (x.cl ck.toNat).dr (x.cl ck.toNat).sy t ((x.cl ck.toNat).m - 1), ahHi (x.cl ck.toNat).dr (x.cl ck.toNat).sy t ((x.cl ck.toNat).m - 1), 0) else (0, 0, 2)) else (0, 0, lnE x)
set_option maxHeartbeats 4000000 in
theorem ahead_both (x : Ln) (ck t : Int) : ∃ a b e : Int, ahV x ck t = (a, b, e) ∧ ∀ (H : Heap) (p : LP), LnAt H x p →
    ACalls Try.prog F.beam_Ahead [.agg (x.av p), .int .i64 ck, .int .i64 t] H (fun v h' => v = .tuple [.agg [.int .i64 a, .int .i64 b], .int .i64 e] ∧ h' = H) ∧
    ACalls Try.prog F.ref05_Ahead [.agg (x.av p), .int .i64 ck, .int .i64 t] H (fun v h' => v = .tuple [.agg [.int .i64 a, .int .i64 b], .int .i64 e] ∧ h' = H) := by
  by_cases h0 : lnE x = 0
  rotate_left
  · refine ⟨0, 0, lnE x, by rw [ahV, if_neg h0], fun H p h => ?_⟩
    have hnl := h.ln
    have kC := fun G => c_CheckB (H ++ G) x p (h.app G)
    have kR := fun G => c_rCheckB (H ++ G) x p (h.app G)
    generalize lnE x = e at *
    simp only [Ln.av] at kC kR ⊢
    constructor
    · skip
      refine acalls_of ok_beam_Ahead rfl fun hcl => ?_
      unfold ac_beam_Ahead
      simp only [argsT, Nat.zero_add, Nat.reduceAdd]
      repeat (first|(with_reducible first|apply X1|apply X2|apply X8)|((with_reducible apply e_end);(simp;exact Red.rfl))|((with_reducible apply O1);rfl;(simp (disch:=omega);exact Red.rfl);exact Red.rfl;(focus (first|(simp;done)|omega|(simp;omega)))))
      (with_reducible apply e_call); (simp; exact Red.rfl); exact kC _
      rintro _ _ ⟨rfl, rfl⟩
      repeat (first|(with_reducible first|apply X1|apply X2|apply X3|apply X8|apply X9)|((with_reducible apply e_end);(simp;exact Red.rfl))|((first|((with_reducible apply O1);rfl)|((with_reducible apply O2);rfl));(simp (disch:=omega) [h0];exact Red.rfl);exact Red.rfl;(focus (first|(simp;done)|omega|(simp;omega))))|((with_reducible apply Z9);(simp (disch:=omega) [h0];exact Red.rfl)))
      refine q_drop (.inr rfl) (by simp; exact Red.rfl) (by simp) ⟨rfl, rfl⟩
    · skip
      refine acalls_of ok_ref05_Ahead rfl fun hcl => ?_
      unfold ac_ref05_Ahead
      simp only [argsT, Nat.zero_add, Nat.reduceAdd]
      repeat (first|(with_reducible first|apply X1|apply X2|apply X8)|((with_reducible apply e_end);(simp;exact Red.rfl))|((with_reducible apply O1);rfl;(simp (disch:=omega);exact Red.rfl);exact Red.rfl;(focus (first|(simp;done)|omega|(simp;omega)))))
      (with_reducible apply e_call); (simp; exact Red.rfl); exact kR _
      rintro _ _ ⟨rfl, rfl⟩
      repeat (first|(with_reducible first|apply X1|apply X2|apply X3|apply X8|apply X9)|((with_reducible apply e_end);(simp;exact Red.rfl))|((first|((with_reducible apply O1);rfl)|((with_reducible apply O2);rfl));(simp (disch:=omega) [h0];exact Red.rfl);exact Red.rfl;(focus (first|(simp;done)|omega|(simp;omega))))|((with_reducible apply Z9);(simp (disch:=omega) [h0];exact Red.rfl)))
      refine q_drop (.inr rfl) (by simp; exact Red.rfl) (by simp) ⟨rfl, rfl⟩
  · obtain ⟨hv, hok⟩ := lnE_zero h0
    by_cases c1 : 0 ≤ ck ∧ ck ≤ (x.nc : Int) - 1
    rotate_left
    · refine ⟨0, 0, 2, by rw [ahV, if_pos h0, if_neg (fun h => c1 h.1)], fun H p h => ?_⟩
      have hnl := h.ln
      have kC := fun G => c_CheckB (H ++ G) x p (h.app G)
      have kR := fun G => c_rCheckB (H ++ G) x p (h.app G)
      have cI := fun G => c_indC (H ++ G) (.slice p.cid p.coff x.nc 2 p.cex) x.nc (.inr ⟨_, _, _, _, rfl⟩) (by have := h.ln; omega)
      rw [h0] at kC kR
      simp only [Ln.av] at kC kR ⊢
      constructor
      · skip
        refine acalls_of ok_beam_Ahead rfl fun hcl => ?_
        unfold ac_beam_Ahead
        simp only [argsT, Nat.zero_add, Nat.reduceAdd]
        repeat (first|(with_reducible first|apply X1|apply X2|apply X8)|((with_reducible apply e_end);(simp;exact Red.rfl))|((with_reducible apply O1);rfl;(simp (disch:=omega);exact Red.rfl);exact Red.rfl;(focus (first|(simp;done)|omega|(simp;omega)))))
        (with_reducible apply e_call); (simp; exact Red.rfl); exact kC _
        rintro _ _ ⟨rfl, rfl⟩
        repeat (first|(with_reducible first|apply X1|apply X2|apply X5|apply X8)|((with_reducible apply e_end);(simp;exact Red.rfl))|((with_reducible apply O1);rfl;(simp (disch:=omega);exact Red.rfl);exact Red.rfl;(focus (first|(simp;done)|omega|(simp;omega))))|((with_reducible apply W3);(simp (disch:=omega);exact Red.rfl)))
        (with_reducible apply e_call); (simp; exact Red.rfl); exact cI _
        rintro _ _ ⟨rfl, rfl⟩
        repeat ((with_reducible apply O1);rfl;(simp (disch:=omega);exact Red.rfl);exact Red.rfl;(focus (first|(simp;done)|omega|(simp;omega))))
        (with_reducible apply e_call); (simp; exact Red.rfl); exact c_within1 _ 0 ((x.nc : Int) - 1) ck (H.length + 2) 0 true (b := false) (by simp) (by simp; omega)
        rintro _ _ ⟨rfl, rfl⟩
        repeat (first|(with_reducible first|apply X1|apply X2|apply X3|apply X8|apply X9)|((with_reducible apply e_end);(simp;exact Red.rfl))|((first|((with_reducible apply O1);rfl)|((with_reducible apply O2);rfl));(simp (disch:=omega);exact Red.rfl);exact Red.rfl;(focus (first|(simp;done)|omega|(simp;omega))))|((with_reducible apply Z9);(simp (disch:=omega);exact Red.rfl))|((with_reducible apply Z2);(simp (disch:=omega);exact Red.rfl)))
        refine q_drop (.inr rfl) (by simp; exact Red.rfl) (by simp) ⟨rfl, rfl⟩
      · skip
        refine acalls_of ok_ref05_Ahead rfl fun hcl => ?_
        unfold ac_ref05_Ahead
        simp only [argsT, Nat.zero_add, Nat.reduceAdd]
        repeat (first|(with_reducible first|apply X1|apply X2|apply X8)|((with_reducible apply e_end);(simp;exact Red.rfl))|((with_reducible apply O1);rfl;(simp (disch:=omega);exact Red.rfl);exact Red.rfl;(focus (first|(simp;done)|omega|(simp;omega)))))
        (with_reducible apply e_call); (simp; exact Red.rfl); exact kR _
        rintro _ _ ⟨rfl, rfl⟩
        repeat (first|(with_reducible first|apply X1|apply X2|apply X5|apply X8)|((with_reducible apply e_end);(simp;exact Red.rfl))|((with_reducible apply O1);rfl;(simp (disch:=omega);exact Red.rfl);exact Red.rfl;(focus (first|(simp;done)|omega|(simp;omega))))|((with_reducible apply W3);(simp (disch:=omega);exact Red.rfl)))
        (with_reducible apply e_call); (simp; exact Red.rfl); exact c_w5 _ ck 0 ((x.nc : Int) - 1) (b := false) (by simp; omega)
        rintro _ _ ⟨rfl, rfl⟩
        repeat (first|(with_reducible first|apply X1|apply X2|apply X3|apply X8|apply X9)|((with_reducible apply e_end);(simp;exact Red.rfl))|((first|((with_reducible apply O1);rfl)|((with_reducible apply O2);rfl));(simp (disch:=omega);exact Red.rfl);exact Red.rfl;(focus (first|(simp;done)|omega|(simp;omega))))|((with_reducible apply Z9);(simp (disch:=omega);exact Red.rfl))|((with_reducible apply Z2);(simp (disch:=omega);exact Red.rfl)))
        refine q_drop (.inr rfl) (by simp; exact Red.rfl) (by simp) ⟨rfl, rfl⟩
    · by_cases c2 : 0 ≤ t ∧ t ≤ 86400000
      rotate_left
      · refine ⟨0, 0, 2, by rw [ahV, if_pos h0, if_neg (fun h => c2 h.2)], fun H p h => ?_⟩
        have hnl := h.ln
        have kC := fun G => c_CheckB (H ++ G) x p (h.app G)
        have kR := fun G => c_rCheckB (H ++ G) x p (h.app G)
        have cI := fun G => c_indC (H ++ G) (.slice p.cid p.coff x.nc 2 p.cex) x.nc (.inr ⟨_, _, _, _, rfl⟩) (by have := h.ln; omega)
        rw [h0] at kC kR
        simp only [Ln.av] at kC kR ⊢
        constructor
        · skip
          refine acalls_of ok_beam_Ahead rfl fun hcl => ?_
          unfold ac_beam_Ahead
          simp only [argsT, Nat.zero_add, Nat.reduceAdd]
          repeat (first|(with_reducible first|apply X1|apply X2|apply X8)|((with_reducible apply e_end);(simp;exact Red.rfl))|((with_reducible apply O1);rfl;(simp (disch:=omega);exact Red.rfl);exact Red.rfl;(focus (first|(simp;done)|omega|(simp;omega)))))
          (with_reducible apply e_call); (simp; exact Red.rfl); exact kC _
          rintro _ _ ⟨rfl, rfl⟩
          repeat (first|(with_reducible first|apply X1|apply X2|apply X5|apply X8)|((with_reducible apply e_end);(simp;exact Red.rfl))|((with_reducible apply O1);rfl;(simp (disch:=omega);exact Red.rfl);exact Red.rfl;(focus (first|(simp;done)|omega|(simp;omega))))|((with_reducible apply W3);(simp (disch:=omega);exact Red.rfl)))
          (with_reducible apply e_call); (simp; exact Red.rfl); exact cI _
          rintro _ _ ⟨rfl, rfl⟩
          repeat ((with_reducible apply O1);rfl;(simp (disch:=omega);exact Red.rfl);exact Red.rfl;(focus (first|(simp;done)|omega|(simp;omega))))
          (with_reducible apply e_call); (simp; exact Red.rfl); exact c_within1 _ 0 ((x.nc : Int) - 1) ck (H.length + 2) 0 true (b := true) (by simp) (by simp; omega)
          rintro _ _ ⟨rfl, rfl⟩
          repeat (first|((with_reducible apply O1);rfl;(simp (disch:=omega);exact Red.rfl);exact Red.rfl;(focus (first|(simp;done)|omega|(simp;omega))))|((with_reducible apply Z7);(simp (disch:=omega);exact Red.rfl)))
          (with_reducible apply e_call); (simp; exact Red.rfl); exact c_day _
          rintro _ _ ⟨rfl, rfl⟩
          repeat (first|((with_reducible apply O1);rfl;(simp (disch:=omega);exact Red.rfl);exact Red.rfl;(focus (first|(simp;done)|omega|(simp;omega))))|((with_reducible apply Z7);(simp (disch:=omega);exact Red.rfl)))
          (with_reducible apply e_call); (simp; exact Red.rfl); exact c_within1 _ 0 86400000 t (H.length + 3) 0 true (b := false) (by simp) (by simp; omega)
          rintro _ _ ⟨rfl, rfl⟩
          repeat (first|(with_reducible first|apply X1|apply X2|apply X3|apply X8|apply X9)|((with_reducible apply e_end);(simp;exact Red.rfl))|((first|((with_reducible apply O1);rfl)|((with_reducible apply O2);rfl));(simp (disch:=omega);exact Red.rfl);exact Red.rfl;(focus (first|(simp;done)|omega|(simp;omega))))|((with_reducible first|apply Z7|apply Z9);(simp (disch:=omega);exact Red.rfl)))
          refine q_drop (.inr rfl) (by simp; exact Red.rfl) (by simp) ⟨rfl, rfl⟩
        · skip
          refine acalls_of ok_ref05_Ahead rfl fun hcl => ?_
          unfold ac_ref05_Ahead
          simp only [argsT, Nat.zero_add, Nat.reduceAdd]
          repeat (first|(with_reducible first|apply X1|apply X2|apply X8)|((with_reducible apply e_end);(simp;exact Red.rfl))|((with_reducible apply O1);rfl;(simp (disch:=omega);exact Red.rfl);exact Red.rfl;(focus (first|(simp;done)|omega|(simp;omega)))))
          (with_reducible apply e_call); (simp; exact Red.rfl); exact kR _
          rintro _ _ ⟨rfl, rfl⟩
          repeat (first|(with_reducible first|apply X1|apply X2|apply X5|apply X8)|((with_reducible apply e_end);(simp;exact Red.rfl))|((with_reducible apply O1);rfl;(simp (disch:=omega);exact Red.rfl);exact Red.rfl;(focus (first|(simp;done)|omega|(simp;omega))))|((with_reducible apply W3);(simp (disch:=omega);exact Red.rfl)))
          (with_reducible apply e_call); (simp; exact Red.rfl); exact c_w5 _ ck 0 ((x.nc : Int) - 1) (b := true) (by simp; omega)
          rintro _ _ ⟨rfl, rfl⟩
          repeat (first|((with_reducible apply O1);rfl;(simp (disch:=omega);exact Red.rfl);exact Red.rfl;(focus (first|(simp;done)|omega|(simp;omega))))|((with_reducible apply Z7);(simp (disch:=omega);exact Red.rfl)))
          (with_reducible apply e_call); (simp; exact Red.rfl); exact c_w5 _ t 0 86400000 (b := false) (by simp; omega)
          rintro _ _ ⟨rfl, rfl⟩
          repeat (first|(with_reducible first|apply X1|apply X2|apply X3|apply X8|apply X9)|((with_reducible apply e_end);(simp;exact Red.rfl))|((first|((with_reducible apply O1);rfl)|((with_reducible apply O2);rfl));(simp (disch:=omega);exact Red.rfl);exact Red.rfl;(focus (first|(simp;done)|omega|(simp;omega))))|((with_reducible first|apply Z7|apply Z9);(simp (disch:=omega);exact Red.rfl)))
          refine q_drop (.inr rfl) (by simp; exact Red.rfl) (by simp) ⟨rfl, rfl⟩
      · obtain ⟨i, rfl⟩ := Int.eq_ofNat_of_zero_le c1.1
        have hi : i < x.nc := by omega
        have hX := hok.2.1 i hi
        refine ⟨ahLo (x.cl i).dr (x.cl i).sy t ((x.cl i).m - 1), ahHi (x.cl i).dr (x.cl i).sy t ((x.cl i).m - 1), 0, by rw [ahV, if_pos h0, if_pos ⟨c1, c2⟩]; rfl, fun H p h => ?_⟩
        have hnl := h.ln
        have kC := fun G => c_CheckB (H ++ G) x p (h.app G)
        have kR := fun G => c_rCheckB (H ++ G) x p (h.app G)
        have cI := fun G => c_indC (H ++ G) (.slice p.cid p.coff x.nc 2 p.cex) x.nc (.inr ⟨_, _, _, _, rfl⟩) (by have := h.ln; omega)
        obtain ⟨sid, soff, sex, hsv, hsr⟩ := okX_sy hX (h.sy i hi).1
        have hsid := rd_lt hsr
        have kA := fun G => c_ahead (H ++ G) (x.cl i).dr t sid soff (x.cl i).m sex (x.cl i).sy (by rw [rd_old _ hsid]; exact hsr) hX.1.1 c2 hX.1.2.1 hX.1.2.2
        have kB := fun G => c_rahead (H ++ G) (x.cl i).dr t sid soff (x.cl i).m sex (x.cl i).sy (by rw [rd_old _ hsid]; exact hsr) hX.1.1 c2 hX.1.2.1 hX.1.2.2
        have ri := h.crow hi
        rw [hsv] at ri
        obtain ⟨l1, l2, l3⟩ := h.lt
        have hi2 : (i : Int) < x.nc := by omega
        rw [h0] at kC kR
        simp only [Ln.av] at kC kR ⊢
        constructor
        · skip
          refine acalls_of ok_beam_Ahead rfl fun hcl => ?_
          unfold ac_beam_Ahead
          simp only [argsT, Nat.zero_add, Nat.reduceAdd]
          repeat (first|(with_reducible first|apply X1|apply X2|apply X8)|((with_reducible apply e_end);(simp;exact Red.rfl))|((with_reducible apply O1);rfl;(simp (disch:=omega);exact Red.rfl);exact Red.rfl;(focus (first|(simp;done)|omega|(simp;omega)))))
          (with_reducible apply e_call); (simp; exact Red.rfl); exact kC _
          rintro _ _ ⟨rfl, rfl⟩
          repeat (first|(with_reducible first|apply X1|apply X2|apply X5|apply X8)|((with_reducible apply e_end);(simp;exact Red.rfl))|((with_reducible apply O1);rfl;(simp (disch:=omega);exact Red.rfl);exact Red.rfl;(focus (first|(simp;done)|omega|(simp;omega))))|((with_reducible apply W3);(simp (disch:=omega);exact Red.rfl)))
          (with_reducible apply e_call); (simp; exact Red.rfl); exact cI _
          rintro _ _ ⟨rfl, rfl⟩
          repeat ((with_reducible apply O1);rfl;(simp (disch:=omega);exact Red.rfl);exact Red.rfl;(focus (first|(simp;done)|omega|(simp;omega))))
          (with_reducible apply e_call); (simp; exact Red.rfl); exact c_within1 _ 0 ((x.nc : Int) - 1) i (H.length + 2) 0 true (b := true) (by simp) (by simp; omega)
          rintro _ _ ⟨rfl, rfl⟩
          repeat (first|((with_reducible apply O1);rfl;(simp (disch:=omega);exact Red.rfl);exact Red.rfl;(focus (first|(simp;done)|omega|(simp;omega))))|((with_reducible apply Z7);(simp (disch:=omega);exact Red.rfl)))
          (with_reducible apply e_call); (simp; exact Red.rfl); exact c_day _
          rintro _ _ ⟨rfl, rfl⟩
          repeat (first|((with_reducible apply O1);rfl;(simp (disch:=omega);exact Red.rfl);exact Red.rfl;(focus (first|(simp;done)|omega|(simp;omega))))|((with_reducible apply Z7);(simp (disch:=omega);exact Red.rfl)))
          (with_reducible apply e_call); (simp; exact Red.rfl); exact c_within1 _ 0 86400000 t (H.length + 3) 0 true (b := true) (by simp) (by simp; omega)
          rintro _ _ ⟨rfl, rfl⟩
          repeat (first|(with_reducible first|apply X1|apply X2|apply X5|apply X8)|((with_reducible apply e_end);(simp;exact Red.rfl))|((with_reducible apply O1);rfl;(simp (disch:=omega) [rd_old _ l2, ri, hi, hi2];exact Red.rfl);exact Red.rfl;(focus (first|(simp;done)|omega|(simp;omega))))|((with_reducible apply Z7);(simp (disch:=omega) [rd_old _ l2, ri, hi, hi2];exact Red.rfl))|((with_reducible apply W3);(simp (disch:=omega) [rd_old _ l2, ri, hi, hi2];exact Red.rfl)))
          (with_reducible apply e_call); (simp; exact Red.rfl); exact kA _
          rintro _ _ ⟨rfl, rfl⟩
          repeat (first|(with_reducible first|apply X3|apply X8)|((with_reducible apply e_end);(simp;exact Red.rfl))|((first|((with_reducible apply O1);rfl)|((with_reducible apply O2);rfl));(simp (disch:=omega);exact Red.rfl);exact Red.rfl;(focus (first|(simp;done)|omega|(simp;omega)))))
          refine q_drop (.inr rfl) (by simp; exact Red.rfl) (by simp) ⟨rfl, rfl⟩
        · skip
          refine acalls_of ok_ref05_Ahead rfl fun hcl => ?_
          unfold ac_ref05_Ahead
          simp only [argsT, Nat.zero_add, Nat.reduceAdd]
          repeat (first|(with_reducible first|apply X1|apply X2|apply X8)|((with_reducible apply e_end);(simp;exact Red.rfl))|((with_reducible apply O1);rfl;(simp (disch:=omega);exact Red.rfl);exact Red.rfl;(focus (first|(simp;done)|omega|(simp;omega)))))
          (with_reducible apply e_call); (simp; exact Red.rfl); exact kR _
          rintro _ _ ⟨rfl, rfl⟩
          repeat (first|(with_reducible first|apply X1|apply X2|apply X5|apply X8)|((with_reducible apply e_end);(simp;exact Red.rfl))|((with_reducible apply O1);rfl;(simp (disch:=omega);exact Red.rfl);exact Red.rfl;(focus (first|(simp;done)|omega|(simp;omega))))|((with_reducible apply W3);(simp (disch:=omega);exact Red.rfl)))
          (with_reducible apply e_call); (simp; exact Red.rfl); exact c_w5 _ i 0 ((x.nc : Int) - 1) (b := true) (by simp; omega)
          rintro _ _ ⟨rfl, rfl⟩
          repeat (first|((with_reducible apply O1);rfl;(simp (disch:=omega);exact Red.rfl);exact Red.rfl;(focus (first|(simp;done)|omega|(simp;omega))))|((with_reducible apply Z7);(simp (disch:=omega);exact Red.rfl)))
          (with_reducible apply e_call); (simp; exact Red.rfl); exact c_w5 _ t 0 86400000 (b := true) (by simp; omega)
          rintro _ _ ⟨rfl, rfl⟩
          repeat (first|(with_reducible first|apply X1|apply X2|apply X5|apply X8)|((with_reducible apply e_end);(simp;exact Red.rfl))|((with_reducible apply O1);rfl;(simp (disch:=omega) [rd_old _ l2, ri, hi, hi2];exact Red.rfl);exact Red.rfl;(focus (first|(simp;done)|omega|(simp;omega))))|((with_reducible apply Z7);(simp (disch:=omega) [rd_old _ l2, ri, hi, hi2];exact Red.rfl))|((with_reducible apply W3);(simp (disch:=omega) [rd_old _ l2, ri, hi, hi2];exact Red.rfl)))
          (with_reducible apply e_call); (simp; exact Red.rfl); exact kB _
          rintro _ _ ⟨rfl, rfl⟩
          repeat (first|(with_reducible first|apply X3|apply X8)|((with_reducible apply e_end);(simp;exact Red.rfl))|((first|((with_reducible apply O1);rfl)|((with_reducible apply O2);rfl));(simp (disch:=omega);exact Red.rfl);exact Red.rfl;(focus (first|(simp;done)|omega|(simp;omega)))))
          refine q_drop (.inr rfl) (by simp; exact Red.rfl) (by simp) ⟨rfl, rfl⟩
theorem c_first (H : Heap) (g : FuncId) (caps : List AV) (a b : Int) (p : Int → Bool) (ha : 0 ≤ a) (hab : a ≤ b) (hb : b ≤ 4000000000000000000) (hcaps : scL H.length caps = true)
    (hp : ∀ m, a ≤ m → m < b → ACalls Try.prog g (.int .i64 m :: caps) H (fun v h' => v = .bool (p m) ∧ h' = H)) (hm : ∀ m, a ≤ m → m + 1 < b → p m = true → p (m + 1) = true) :
    ACalls Try.prog F.span_First_int [.int .i64 a, .int .i64 b, .fn (.func g) [] caps] H (fun v h' => h' = H ∧ ∃ r, v = .int .i64 r ∧ a ≤ r ∧ r ≤ b ∧ (∀ m, a ≤ m → m < r → p m = false) ∧ (∀ m, r ≤ m → m < b → p m = true)) := by
  have up1 : ∀ (k : Nat) m, a ≤ m → m + k < b → p m = true → p (m + k) = true := by
    intro k
    induction k with
    | zero => intro m _ _ h; simpa using h
    | succ k ih =>
      intro m h1 h2 h3
      have := hm (m + k) (by omega) (by omega) (ih m h1 (by omega) h3)
      rw [show m + ((k + 1 : Nat) : Int) = m + k + 1 by omega]; exact this
  have up2 : ∀ m m', a ≤ m → m ≤ m' → m' < b → p m = true → p m' = true := by
    intro m m' h1 h2 h3 h4
    have := up1 (m' - m).toNat m h1 (by omega) h4
    rwa [show m + ((m' - m).toNat : Int) = m' by omega] at this
  refine acalls_of ok_span_First_int rfl fun hcl => ?_
  unfold ac_span_First_int
  simp only [argsT, Nat.zero_add, Nat.reduceAdd]
  repeat (first|(with_reducible first|apply X1|apply X2|apply X6|apply X8)|((with_reducible apply e_end);(simp;exact Red.rfl))|((with_reducible apply O1);rfl;(simp (disch:=omega);exact Red.rfl);exact Red.rfl;(focus (first|(simp;done)|omega|(simp;omega)))))
  refine e_loop (ι := { x : Int × Int // a ≤ x.1 ∧ x.1 ≤ x.2 ∧ x.2 ≤ b ∧ (∀ m, a ≤ m → m < x.1 → p m = false) ∧ (∀ m, x.2 ≤ m → m < b → p m = true) })
    (fun x => [(0, .int .i64 x.1.1), (1, .int .i64 x.1.2), (2, .fn (.func g) [] caps)]) (fun _ => H) (fun x => (x.1.2 - x.1.1).toNat) ⟨(a, b), by simp only; omega, hab, by simp, fun _ _ _ => by omega, fun _ _ _ => by omega⟩ ?_ ?_
  · exact .inl rfl
  · rintro ⟨⟨x, y⟩, h1, h2, h3, h4, h5⟩
    dsimp only at h1 h2 h3 h4 h5 ⊢
    repeat (first|(with_reducible first|apply X1|apply X2|apply X8)|((with_reducible apply e_end);(simp;exact Red.rfl))|((with_reducible apply O1);rfl;(simp (disch:=omega);exact Red.rfl);exact Red.rfl;(focus (first|(simp;done)|omega|(simp;omega)))))
    (with_reducible apply e_dec); (simp; exact Red.rfl)
    · intro hlt
      have ht : (y - x).tdiv 2 = (y - x) / 2 := Int.tdiv_eq_ediv_of_nonneg (by omega)
      repeat (first|(with_reducible first|apply X1|apply X2|apply X5|apply X6|apply X8)|((with_reducible apply e_end);(simp;exact Red.rfl))|((with_reducible apply O1);rfl;(simp (disch:=omega) [ht];exact Red.rfl);exact Red.rfl;(focus (first|(simp;done)|omega|(simp;omega)))))
      have hmid : x ≤ x + (y - x) / 2 ∧ x + (y - x) / 2 < y := by omega
      generalize x + (y - x) / 2 = m at hmid
      (with_reducible apply e_callV); (simp; exact Red.rfl); (simp; exact Red.rfl); exact hp m (by omega) (by omega)
      rintro _ _ ⟨rfl, rfl⟩
      cases hpm : p m with
      | true =>
        repeat (first|(with_reducible first|apply X2|apply X8|apply Y2)|((with_reducible apply e_end);(simp;exact Red.rfl))|((with_reducible apply O1);rfl;(simp (disch:=omega) [hpm];exact Red.rfl);exact Red.rfl;(focus (first|(simp;done)|omega|(simp;omega))))|((with_reducible apply Z9);(simp (disch:=omega) [hpm];exact Red.rfl)))
        exact q_again ⟨(x, m), h1, by simp only; omega, by simp only; omega, h4, fun m' h6 h7 => up2 m m' (by omega) h6 h7 hpm⟩ (by dsimp only; omega) (.inl rfl)
      | false =>
        repeat (first|(with_reducible first|apply X2|apply X8|apply Y2)|((with_reducible apply e_end);(simp;exact Red.rfl))|((with_reducible apply O1);rfl;(simp (disch:=omega) [hpm];exact Red.rfl);exact Red.rfl;(focus (first|(simp;done)|omega|(simp;omega))))|((with_reducible apply W3);(simp (disch:=omega) [hpm];exact Red.rfl)))
        refine q_again ⟨(m + 1, y), by simp only; omega, by simp only; omega, h3, fun m' h6 h7 => ?_, h5⟩ (by dsimp only; omega) (.inl rfl)
        simp only at h7
        cases hpm' : p m' with
        | false => rfl
        | true => have := up2 m' m h6 (by omega) (by omega) hpm'; rw [hpm] at this; cases this
    · intro hge
      repeat (first|(with_reducible first|apply X1|apply X2|apply X3|apply X4|apply X8|apply Y1|apply Y4|apply Y6)|((with_reducible apply e_end);(simp;exact Red.rfl))|((with_reducible apply O1);rfl;(simp (disch:=omega);exact Red.rfl);exact Red.rfl;(focus (first|(simp;done)|omega|(simp;omega)))))
      obtain rfl : x = y := by omega
      refine q_drop0 (.inr rfl) (by simp; exact Red.rfl) (by simp) ⟨rfl, x, rfl, h1, h3, h4, h5⟩

def leastF (p : Int → Bool) : Nat → Nat
  | 0 => 0
  | n + 1 => if p (leastF p n) = true then leastF p n else if leastF p n = n then n + 1 else leastF p n
theorem leastF_is (p : Int → Bool) : ∀ n, leastF p n ≤ n ∧ (∀ m : Nat, m < leastF p n → p m = false) ∧ (leastF p n < n → p (leastF p n) = true)
  | 0 => ⟨Nat.le_refl _, fun m h => by simp [leastF] at h, fun h => by simp [leastF] at h⟩
  | n + 1 => by
    obtain ⟨h1, h2, h3⟩ := leastF_is p n
    simp only [leastF]
    by_cases hp : p (leastF p n) = true
    · rw [if_pos hp]; exact ⟨by omega, h2, fun _ => hp⟩
    · rw [if_neg hp]
      by_cases he : leastF p n = n
      · rw [if_pos he]
        refine ⟨Nat.le_refl _, fun m hm => ?_, fun h => by omega⟩
        rcases Nat.lt_or_ge m n with h | h
        · exact h2 m (by omega)
        · obtain rfl : m = leastF p n := by omega
          simpa using hp
      · rw [if_neg he]; exact absurd (h3 (by omega)) hp
theorem least_uniq {p : Int → Bool} {n : Nat} {r : Int} (h0 : 0 ≤ r) (hn : r ≤ n) (h1 : ∀ m, 0 ≤ m → m < r → p m = false) (h2 : ∀ m, r ≤ m → m < n → p m = true) : r = leastF p n := by
  obtain ⟨g1, g2, g3⟩ := leastF_is p n
  rcases Int.lt_trichotomy r (leastF p n) with h | h | h
  · have e1 := g2 r.toNat (by omega)
    have e2 := h2 r (Int.le_refl _) (by omega)
    rw [Int.toNat_of_nonneg h0, e2] at e1; cases e1
  · exact h
  · have e1 := h1 (leastF p n) (by omega) h
    rw [g3 (by omega)] at e1; cases e1

theorem drF_step {dr u : Int} (hd : 0 ≤ dr ∧ dr ≤ 1000) (hu : 0 ≤ u) : drF dr u ≤ drF dr (u + 1) ∧ drF dr (u + 1) ≤ drF dr u + 1 := by
  have e : (u + 1) * dr = u * dr + dr := by rw [Int.add_mul, Int.one_mul]
  unfold drF
  rw [e]
  generalize u * dr = q
  omega
theorem snD_step {dr t : Int} {s : Sy} (hd : 0 ≤ dr ∧ dr ≤ 1000) : snD dr s (t + 1) ≤ snD dr s t + 1 ∧ snD dr s t ≤ snD dr s (t + 1) + 1 := by
  unfold snD
  by_cases h : s.at_ ≤ t
  · have e1 : max (t + 1 - s.at_) (s.at_ - (t + 1)) = (t - s.at_) + 1 := by omega
    have e2 : max (t - s.at_) (s.at_ - t) = t - s.at_ := by omega
    rw [e1, e2]
    have := drF_step hd (show 0 ≤ t - s.at_ by omega)
    omega
  · have e1 : max (t + 1 - s.at_) (s.at_ - (t + 1)) = s.at_ - t - 1 := by omega
    have e2 : max (t - s.at_) (s.at_ - t) = (s.at_ - t - 1) + 1 := by omega
    rw [e1, e2]
    have := drF_step hd (show 0 ≤ s.at_ - t - 1 by omega)
    omega
theorem ah_step {dr t : Int} {sy : Nat → Sy} (hd : 0 ≤ dr ∧ dr ≤ 1000) : ∀ k, t + ahLo dr sy t k ≤ t + 1 + ahLo dr sy (t + 1) k ∧ t + ahHi dr sy t k ≤ t + 1 + ahHi dr sy (t + 1) k
  | 0 => by
    have := snD_step (s := sy 0) (t := t) hd
    simp only [ahLo, ahHi]
    omega
  | k + 1 => by
    have ih := ah_step (t := t) (sy := sy) hd k
    have := snD_step (s := sy (k + 1)) (t := t) hd
    simp only [ahLo, ahHi]
    omega
def pHi (c : Ck) (rdg t : Int) : Bool := decide (rdg ≤ t + ahHi c.dr c.sy t (c.m - 1))
def pLo (c : Ck) (rdg t : Int) : Bool := decide (rdg < t + ahLo c.dr c.sy t (c.m - 1))
theorem pHi_step {c : Ck} {rdg t : Int} (hX : okX c) (h : pHi c rdg t = true) : pHi c rdg (t + 1) = true := by
  have := (ah_step (t := t) (sy := c.sy) hX.1.1 (c.m - 1)).2
  simp only [pHi, decide_eq_true_eq] at h ⊢
  omega
theorem pLo_step {c : Ck} {rdg t : Int} (hX : okX c) (h : pLo c rdg t = true) : pLo c rdg (t + 1) = true := by
  have := (ah_step (t := t) (sy := c.sy) hX.1.1 (c.m - 1)).1
  simp only [pLo, decide_eq_true_eq] at h ⊢
  omega
theorem step_up {p : Int → Bool} (hp : ∀ t, p t = true → p (t + 1) = true) {a b : Int} (hab : a ≤ b) (h : p a = true) : p b = true := by
  have : ∀ k : Nat, p (a + k) = true := by
    intro k
    induction k with
    | zero => simpa using h
    | succ k ih => rw [show a + ((k + 1 : Nat) : Int) = a + k + 1 by omega]; exact hp _ ih
  have := this (b - a).toNat
  rwa [show a + ((b - a).toNat : Int) = b by omega] at this
noncomputable def fsT (c : Ck) (rdg : Int) : Int := leastF (pHi c rdg) 86400001
noncomputable def ltT (c : Ck) (rdg : Int) : Int := leastF (pLo c rdg) 86400001
theorem fsT_bd (c : Ck) (rdg : Int) : 0 ≤ fsT c rdg ∧ fsT c rdg ≤ 86400001 := by
  have := (leastF_is (pHi c rdg) 86400001).1
  unfold fsT; omega
theorem ltT_bd (c : Ck) (rdg : Int) : 0 ≤ ltT c rdg ∧ ltT c rdg ≤ 86400001 := by
  have := (leastF_is (pLo c rdg) 86400001).1
  unfold ltT; omega
theorem ltT_from {c : Ck} {rdg a r : Int} (hX : okX c) (ha : 0 ≤ a) (hr : a ≤ r ∧ r ≤ 86400001) (h1 : ∀ m, a ≤ m → m < r → pLo c rdg m = false) (h2 : ∀ m, r ≤ m → m < 86400001 → pLo c rdg m = true) : r = max a (ltT c rdg) := by
  obtain ⟨g1, g2, g3⟩ := leastF_is (pLo c rdg) 86400001
  have hb := ltT_bd c rdg
  have e : ltT c rdg = (leastF (pLo c rdg) 86400001 : Nat) := rfl
  have st := fun t => pLo_step (c := c) (rdg := rdg) (t := t) hX
  rcases Int.lt_trichotomy r (max a (ltT c rdg)) with h | h | h
  · have e1 := h2 r (Int.le_refl _) (by omega)
    have e2 := g2 r.toNat (by omega)
    rw [Int.toNat_of_nonneg (by omega), e1] at e2; cases e2
  · exact h
  · have e1 := h1 (max a (ltT c rdg)) (by omega) h
    have e2 := g3 (by omega)
    rw [← e] at e2
    rw [step_up st (show ltT c rdg ≤ max a (ltT c rdg) by omega) e2] at e1; cases e1
section
variable (H : Heap) (c : Ck) (sid soff : Nat) (sex : Bool) (cp sp : Nat) (bi rdg m : Int) (hX : okX c) (hr : rd H sid soff (c.m * 3) = some (avR (syR c.sy) c.m)) (h1 : rd H cp 0 2 = some [.int .i64 c.dr, .slice sid soff c.m 3 sex]) (h2 : rd H sp 0 2 = some [.int .i64 bi, .int .i64 rdg]) (hm : 0 ≤ m ∧ m < 86400001)
include hX hr h1 h2 hm
theorem c_times1 : ACalls Try.prog F.beam_line_times_1 [.int .i64 m, .ptr cp 0, .ptr sp 0] H (fun v h' => v = .bool (pHi c rdg m) ∧ h' = H) := by
  have kA := c_ahead H c.dr m sid soff c.m sex c.sy hr hX.1.1 (by omega) hX.1.2.1 hX.1.2.2
  have bd := ah_bd hX.1.1 (t := m) (by omega) hX.1.2.2 (c.m - 1) (by have := hX.1.2.1; omega)
  have h3 := rd_sub h2 (j := 1) (m := 1) (by omega)
  simp only [Nat.zero_add, List.drop_succ_cons, List.drop_zero, List.take_succ_cons, List.take_zero] at h3
  have e : pHi c rdg m = decide (rdg ≤ m + ahHi c.dr c.sy m (c.m - 1)) := rfl
  rw [e]
  have hw : IntKind.i64.wrap (m + ahHi c.dr c.sy m (c.m - 1)) = m + ahHi c.dr c.sy m (c.m - 1) := by rw [wrap64] <;> omega
  have j1 := rd_lt h1
  have j2 := rd_lt h2
  have j3 := rd_lt hr
  refine acalls_of ok_beam_line_times_1 rfl fun hcl => ?_
  unfold ac_beam_line_times_1
  simp only [argsT, Nat.zero_add, Nat.reduceAdd]
  repeat (first|(with_reducible first|apply X1|apply X2|apply X8|apply Y9)|((with_reducible apply e_end);(simp;exact Red.rfl))|((first|((with_reducible apply O1);rfl)|((with_reducible apply P1);rfl)|((with_reducible apply P2);rfl));(simp (disch:=omega) [h1];exact Red.rfl);exact Red.rfl;(focus (first|(simp;done)|omega|(simp;omega)))))
  (with_reducible apply d_call); (simp; exact Red.rfl); exact kA; (focus (first | (simp; done) | (simp; omega)))
  repeat (first|(with_reducible first|apply X3|apply X8)|((with_reducible apply d_end);(simp;exact Red.rfl))|((with_reducible apply P1);rfl;(simp (disch:=omega) [h3, hw];exact Red.rfl);exact Red.rfl;(focus (first|(simp;done)|omega|(simp;omega))))|((with_reducible apply P6);rfl;(simp (disch:=omega) [h3, hw];exact Red.rfl);exact Red.rfl;(focus (first|(simp [pr];done)|(simp [pr];omega)))))
  refine q_stay (.inr rfl) (by simp; exact Red.rfl) ⟨rfl, rfl⟩
theorem c_times2 : ACalls Try.prog F.beam_line_times_2 [.int .i64 m, .ptr cp 0, .ptr sp 0] H (fun v h' => v = .bool (pLo c rdg m) ∧ h' = H) := by
  have kA := c_ahead H c.dr m sid soff c.m sex c.sy hr hX.1.1 (by omega) hX.1.2.1 hX.1.2.2
  have bd := ah_bd hX.1.1 (t := m) (by omega) hX.1.2.2 (c.m - 1) (by have := hX.1.2.1; omega)
  have h3 := rd_sub h2 (j := 1) (m := 1) (by omega)
  simp only [Nat.zero_add, List.drop_succ_cons, List.drop_zero, List.take_succ_cons, List.take_zero] at h3
  have e : pLo c rdg m = decide (rdg < m + ahLo c.dr c.sy m (c.m - 1)) := rfl
  rw [e]
  have hw : IntKind.i64.wrap (m + ahLo c.dr c.sy m (c.m - 1)) = m + ahLo c.dr c.sy m (c.m - 1) := by rw [wrap64] <;> omega
  have j1 := rd_lt h1
  have j2 := rd_lt h2
  have j3 := rd_lt hr
  refine acalls_of ok_beam_line_times_2 rfl fun hcl => ?_
  unfold ac_beam_line_times_2
  simp only [argsT, Nat.zero_add, Nat.reduceAdd]
  repeat (first|(with_reducible first|apply X1|apply X2|apply X8|apply Y9)|((with_reducible apply e_end);(simp;exact Red.rfl))|((first|((with_reducible apply O1);rfl)|((with_reducible apply P1);rfl)|((with_reducible apply P2);rfl));(simp (disch:=omega) [h1];exact Red.rfl);exact Red.rfl;(focus (first|(simp;done)|omega|(simp;omega)))))
  (with_reducible apply d_call); (simp; exact Red.rfl); exact kA; (focus (first | (simp; done) | (simp; omega)))
  repeat (first|(with_reducible first|apply X3|apply X8)|((with_reducible apply d_end);(simp;exact Red.rfl))|((with_reducible apply P1);rfl;(simp (disch:=omega) [h3, hw];exact Red.rfl);exact Red.rfl;(focus (first|(simp;done)|omega|(simp;omega))))|((with_reducible apply P6);rfl;(simp (disch:=omega) [h3, hw];exact Red.rfl);exact Red.rfl;(focus (first|(simp [pr];done)|(simp [pr];omega)))))
  refine q_stay (.inr rfl) (by simp; exact Red.rfl) ⟨rfl, rfl⟩
end
structure Sg where
  b : Int
  rdg : Int
set_option maxHeartbeats 4000000 in
theorem c_timesB (H : Heap) (x : Ln) (p : LP) (h : LnAt H x p) (j i : Nat) (rdg : Int) (hj : j < x.nb) (hi : i < x.nc) (hck : (x.bm j).ck = i) (hX : okX (x.cl i)) (hr : 0 ≤ rdg ∧ rdg ≤ 86400000) :
    ACalls Try.prog F.beam_line_times [.agg (x.av p), .agg [.int .i64 j, .int .i64 rdg]] H (fun v h' => v = .agg [.int .i64 (fsT (x.cl i) rdg), .int .i64 (max (fsT (x.cl i) rdg) (ltT (x.cl i) rdg) - 1)] ∧ h' = H) := by
  obtain ⟨l1, l2, l3⟩ := h.lt
  have hnl := h.ln
  have rj := rd_sub (h.brow hj) (j := 3) (m := 1) (by omega)
  simp only [Bm.av, List.drop_succ_cons, List.drop_zero, List.take_succ_cons, List.take_zero, hck] at rj
  obtain ⟨sid, soff, sex, hsv, hsr⟩ := okX_sy hX (h.sy i hi).1
  have hsid := rd_lt hsr
  have ri := h.crow hi
  rw [hsv] at ri
  have b1 := fsT_bd (x.cl i) rdg
  have b2 := ltT_bd (x.cl i) rdg
  have hj2 : (j : Int) < x.nb := by omega
  have hi2 : (i : Int) < x.nc := by omega
  simp only [Ln.av]
  refine acalls_of ok_beam_line_times rfl fun hcl => ?_
  unfold ac_beam_line_times
  simp only [argsT, Nat.zero_add, Nat.reduceAdd]
  repeat (first|(with_reducible first|apply X1|apply X2|apply X8|apply Y9)|((with_reducible first|apply e_end|apply d_end);(simp;exact Red.rfl))|((first|((with_reducible apply O1);rfl)|((with_reducible apply P1);rfl)|((with_reducible apply P2);rfl)|((with_reducible apply P3);rfl)|((with_reducible apply P4);rfl));(simp (disch:=omega) [rd_old _ l2, rd_old _ l3, rj, ri, hj, hj2, hi, hi2];exact Red.rfl);exact Red.rfl;(focus (first|(simp;done)|omega|(simp;omega)))))
  (with_reducible apply e_call); (simp; exact Red.rfl); exact c_first _ F.beam_line_times_1 [.ptr (H.length + 3) 0, .ptr (H.length + 1) 0] 0 86400001 (pHi (x.cl i) rdg) (by omega) (by omega) (by omega) (by simp [scL, AV.sc]) (fun m g1 g2 => c_times1 _ (x.cl i) sid soff sex (H.length + 3) (H.length + 1) j rdg m hX (by rw [rd_old _ hsid]; exact hsr) (by simp) (by simp) ⟨g1, g2⟩) (fun m _ _ g => pHi_step hX g)
  rintro _ _ ⟨rfl, r, rfl, g1, g2, g3, g4⟩
  obtain rfl : r = fsT (x.cl i) rdg := least_uniq (n := 86400001) g1 (by omega) g3 (fun m a b => g4 m a (by omega))
  repeat (first|(with_reducible first|apply X1|apply X2|apply X8)|((with_reducible apply e_end);(simp;exact Red.rfl))|((with_reducible apply O1);rfl;(simp (disch:=omega);exact Red.rfl);exact Red.rfl;(focus (first|(simp;done)|omega|(simp;omega)))))
  (with_reducible apply e_call); (simp; exact Red.rfl); exact c_first _ F.beam_line_times_2 [.ptr (H.length + 3) 0, .ptr (H.length + 1) 0] (fsT (x.cl i) rdg) 86400001 (pLo (x.cl i) rdg) (by omega) (by omega) (by omega) (by simp [scL, AV.sc]) (fun m q1 q2 => c_times2 _ (x.cl i) sid soff sex (H.length + 3) (H.length + 1) j rdg m hX (by rw [rd_old _ hsid]; exact hsr) (by simp) (by simp) ⟨by omega, q2⟩) (fun m _ _ g => pLo_step hX g)
  rintro _ _ ⟨rfl, r, rfl, q1, q2, q3, q4⟩
  obtain rfl : r = max (fsT (x.cl i) rdg) (ltT (x.cl i) rdg) := ltT_from hX g1 ⟨q1, q2⟩ q3 q4
  have hw : IntKind.i64.wrap (max (fsT (x.cl i) rdg) (ltT (x.cl i) rdg) - 1) = max (fsT (x.cl i) rdg) (ltT (x.cl i) rdg) - 1 := by rw [wrap64] <;> omega
  repeat (first|(with_reducible first|apply X1|apply X2|apply X3|apply X8)|((with_reducible apply e_end);(simp;exact Red.rfl))|((first|((with_reducible apply O1);rfl)|((with_reducible apply O2);rfl));(simp (disch:=omega) [hw];exact Red.rfl);exact Red.rfl;(focus (first|(simp;done)|omega|(simp;omega)))))
  refine q_drop (.inr rfl) (by simp; exact Red.rfl) (by simp) ⟨rfl, rfl⟩
set_option maxHeartbeats 4000000 in
theorem c_rwhen (H : Heap) (x : Ln) (p : LP) (h : LnAt H x p) (j i : Nat) (rdg : Int) (hj : j < x.nb) (hi : i < x.nc) (hck : (x.bm j).ck = i) (hX : okX (x.cl i)) (hr : 0 ≤ rdg ∧ rdg ≤ 86400000) :
    ACalls Try.prog F.ref05_when [.agg (x.av p), .agg [.int .i64 j, .int .i64 rdg]] H (fun v h' => v = .tuple [.agg [.int .i64 (fsT (x.cl i) rdg), .int .i64 (ltT (x.cl i) rdg - 1)], .bool (decide (fsT (x.cl i) rdg ≤ ltT (x.cl i) rdg - 1))] ∧ h' = H) := by
  obtain ⟨l1, l2, l3⟩ := h.lt
  have hnl := h.ln
  have rj := rd_sub (h.brow hj) (j := 3) (m := 1) (by omega)
  simp only [Bm.av, List.drop_succ_cons, List.drop_zero, List.take_succ_cons, List.take_zero, hck] at rj
  obtain ⟨sid, soff, sex, hsv, hsr⟩ := okX_sy hX (h.sy i hi).1
  have hsid := rd_lt hsr
  have ri := h.crow hi
  rw [hsv] at ri
  have b1 := fsT_bd (x.cl i) rdg
  have b2 := ltT_bd (x.cl i) rdg
  have hj2 : (j : Int) < x.nb := by omega
  have hi2 : (i : Int) < x.nc := by omega
  have kA := fun G m hm => c_rahead (H ++ G) (x.cl i).dr m sid soff (x.cl i).m sex (x.cl i).sy (by rw [rd_old _ hsid]; exact hsr) hX.1.1 hm hX.1.2.1 hX.1.2.2
  have bd := fun m hm => ah_bd hX.1.1 (t := m) hm hX.1.2.2 ((x.cl i).m - 1) (by have := hX.1.2.1; omega)
  have eH : ∀ m, pHi (x.cl i) rdg m = decide (rdg ≤ m + ahHi (x.cl i).dr (x.cl i).sy m ((x.cl i).m - 1)) := fun _ => rfl
  have eL : ∀ m, pLo (x.cl i) rdg m = decide (rdg < m + ahLo (x.cl i).dr (x.cl i).sy m ((x.cl i).m - 1)) := fun _ => rfl
  simp only [Ln.av]
  refine acalls_of ok_ref05_when rfl fun hcl => ?_
  unfold ac_ref05_when
  simp only [argsT, Nat.zero_add, Nat.reduceAdd]
  repeat (first|(with_reducible first|apply X1|apply X2|apply X6|apply X8|apply Y9)|((with_reducible first|apply e_end|apply d_end);(simp;exact Red.rfl))|((first|((with_reducible apply O1);rfl)|((with_reducible apply P1);rfl)|((with_reducible apply P2);rfl)|((with_reducible apply P3);rfl)|((with_reducible apply P4);rfl));(simp (disch:=omega) [rd_old _ l2, rd_old _ l3, rj, ri, hj, hj2, hi, hi2];exact Red.rfl);exact Red.rfl;(focus (first|(simp;done)|omega|(simp;omega)))))
  refine e_loop (ι := { q : Int × Int // 0 ≤ q.1 ∧ q.1 ≤ q.2 ∧ q.2 ≤ 86400001 ∧ (∀ m, 0 ≤ m → m < q.1 → pHi (x.cl i) rdg m = false) ∧ (∀ m, q.2 ≤ m → m < 86400001 → pHi (x.cl i) rdg m = true) })
    (fun q => [(3, .ptr (H.length + 1) 0), (4, .ptr (H.length + 2) 0), (6, .ptr (H.length + 3) 0), (7, .int .i64 q.1.1), (8, .int .i64 q.1.2)])
    (fun _ => H ++ [.cells [.slice p.tid p.toff x.tr.length 9 p.tex, .int .i64 x.fast, .slice p.cid p.coff x.nc 2 p.cex, .slice p.bid p.boff x.nb 4 p.bex, .int .i64 x.fin, .int .i64 x.fakes, .int .i64 x.misses] true, .cells [.int .i64 j, .int .i64 rdg] true, .cells [.int .i64 0, .int .i64 0] true, .cells [.int .i64 (x.cl i).dr, .slice sid soff (x.cl i).m 3 sex] true]) (fun q => (q.1.2 - q.1.1).toNat) ⟨(0, 86400001), by simp only; omega, by simp only; omega, by simp, fun _ _ _ => by omega, fun _ _ _ => by omega⟩ ?_ ?_
  · exact .inl rfl
  · rintro ⟨⟨a, b⟩, h1, h2, h3, h4, h5⟩
    dsimp only at h1 h2 h3 h4 h5 ⊢
    by_cases hlt : a < b
    · have ht : (a + b).tdiv 2 = (a + b) / 2 := Int.tdiv_eq_ediv_of_nonneg (by omega)
      have hmid : a ≤ (a + b) / 2 ∧ (a + b) / 2 < b := by omega
      have hwm : IntKind.i64.wrap ((a + b) / 2) = (a + b) / 2 := by rw [wrap64] <;> omega
      repeat (first|(with_reducible first|apply X1|apply X2|apply X5|apply X6|apply X8|apply Y9)|((with_reducible apply e_end);(simp;exact Red.rfl))|((first|((with_reducible apply O1);rfl)|((with_reducible apply P1);rfl)|((with_reducible apply P2);rfl));(simp (disch:=omega) [hlt, ht, hwm];exact Red.rfl);exact Red.rfl;(focus (first|(simp;done)|omega|(simp;omega))))|((with_reducible apply Z9);(simp (disch:=omega) [hlt, ht, hwm];exact Red.rfl)))
      generalize (a + b) / 2 = m at hmid
      have bm := bd m (by omega)
      (with_reducible apply d_call); (simp; exact Red.rfl); exact kA _ m (by omega); (focus (first | (simp; done) | (simp; omega)))
      have hw : IntKind.i64.wrap (m + ahHi (x.cl i).dr (x.cl i).sy m ((x.cl i).m - 1)) = m + ahHi (x.cl i).dr (x.cl i).sy m ((x.cl i).m - 1) := by rw [wrap64] <;> omega
      have eHm := eH m
      have st := fun t => pHi_step (c := x.cl i) (rdg := rdg) (t := t) hX
      by_cases hc : rdg ≤ m + ahHi (x.cl i).dr (x.cl i).sy m ((x.cl i).m - 1)
      · have hpm : pHi (x.cl i) rdg m = true := by rw [eHm]; simpa using hc
        repeat (first|(with_reducible first|apply X2|apply X8|apply Y2)|((with_reducible first|apply e_end|apply d_end);(simp;exact Red.rfl))|((first|((with_reducible apply O1);rfl)|((with_reducible apply P1);rfl));(simp (disch:=omega) [hw, hc];exact Red.rfl);exact Red.rfl;(focus (first|(simp;done)|omega|(simp;omega))))|((with_reducible apply Z9);(simp (disch:=omega) [hw, hc];exact Red.rfl))|((with_reducible apply P6);rfl;(simp (disch:=omega) [hw, hc];exact Red.rfl);exact Red.rfl;(focus (first|(simp [pr];done)|(simp [pr];omega)))))
        exact q_again ⟨(a, m), h1, by simp only; omega, by simp only; omega, h4, fun m' h6 h7 => step_up st h6 hpm⟩ (by dsimp only; omega) (.inl rfl)
      · have hpm : pHi (x.cl i) rdg m = false := by rw [eHm]; simpa using hc
        have hwp : IntKind.i64.wrap (m + 1) = m + 1 := by rw [wrap64] <;> omega
        repeat (first|(with_reducible first|apply X2|apply X8|apply Y2)|((with_reducible first|apply e_end|apply d_end);(simp;exact Red.rfl))|((first|((with_reducible apply O1);rfl)|((with_reducible apply P1);rfl));(simp (disch:=omega) [hw, hc, hwp];exact Red.rfl);exact Red.rfl;(focus (first|(simp;done)|omega|(simp;omega))))|((with_reducible apply W3);(simp (disch:=omega) [hw, hc, hwp];exact Red.rfl))|((with_reducible apply P6);rfl;(simp (disch:=omega) [hw, hc, hwp];exact Red.rfl);exact Red.rfl;(focus (first|(simp [pr];done)|(simp [pr];omega)))))
        refine q_again ⟨(m + 1, b), by simp only; omega, by simp only; omega, h3, fun m' h6 h7 => ?_, h5⟩ (by dsimp only; omega) (.inl rfl)
        simp only at h7
        cases hpm' : pHi (x.cl i) rdg m' with
        | false => rfl
        | true => have := step_up st (show m' ≤ m by omega) hpm'; rw [hpm] at this; cases this
    · obtain rfl : a = b := by omega
      obtain rfl : a = fsT (x.cl i) rdg := least_uniq (n := 86400001) h1 (by omega) h4 (fun m q1 q2 => h5 m q1 (by omega))
      repeat (first|(with_reducible first|apply X1|apply X2|apply X4|apply X6|apply X8|apply Y1|apply Y4|apply Y6)|((with_reducible apply e_end);(simp;exact Red.rfl))|((with_reducible apply O1);rfl;(simp (disch:=omega) [hlt];exact Red.rfl);exact Red.rfl;(focus (first|(simp;done)|omega|(simp;omega))))|((with_reducible apply W3);(simp (disch:=omega) [hlt];exact Red.rfl)))
      refine e_loop (ι := { q : Int × Int // -1 ≤ q.1 ∧ q.1 ≤ q.2 ∧ q.2 ≤ 86400000 ∧ (∀ m, 0 ≤ m → m < q.1 + 1 → pLo (x.cl i) rdg m = false) ∧ (∀ m, q.2 + 1 ≤ m → m < 86400001 → pLo (x.cl i) rdg m = true) })
        (fun q => [(3, .ptr (H.length + 1) 0), (4, .ptr (H.length + 2) 0), (6, .ptr (H.length + 3) 0), (7, .int .i64 q.1.1), (8, .int .i64 q.1.2), (10, .int .i64 (fsT (x.cl i) rdg))])
        (fun _ => H ++ [.cells [.slice p.tid p.toff x.tr.length 9 p.tex, .int .i64 x.fast, .slice p.cid p.coff x.nc 2 p.cex, .slice p.bid p.boff x.nb 4 p.bex, .int .i64 x.fin, .int .i64 x.fakes, .int .i64 x.misses] true, .cells [.int .i64 j, .int .i64 rdg] true, .cells [.int .i64 0, .int .i64 0] true, .cells [.int .i64 (x.cl i).dr, .slice sid soff (x.cl i).m 3 sex] true]) (fun q => (q.1.2 - q.1.1).toNat) ⟨(-1, 86400000), by simp only; omega, by simp only; omega, by simp, fun _ _ _ => by omega, fun _ _ _ => by omega⟩ ?_ ?_
      · exact .inl rfl
      · rintro ⟨⟨a, b⟩, h1, h2, h3, h4, h5⟩
        dsimp only at h1 h2 h3 h4 h5 ⊢
        by_cases hlt : a < b
        · have ht : (a + b + 1).tdiv 2 = (a + b + 1) / 2 := Int.tdiv_eq_ediv_of_nonneg (by omega)
          have hmid : a < (a + b + 1) / 2 ∧ (a + b + 1) / 2 ≤ b := by omega
          have hwm : IntKind.i64.wrap ((a + b + 1) / 2) = (a + b + 1) / 2 := by rw [wrap64] <;> omega
          repeat (first|(with_reducible first|apply X1|apply X2|apply X5|apply X6|apply X8|apply Y9)|((with_reducible apply e_end);(simp;exact Red.rfl))|((first|((with_reducible apply O1);rfl)|((with_reducible apply P1);rfl)|((with_reducible apply P2);rfl));(simp (disch:=omega) [hlt, ht, hwm];exact Red.rfl);exact Red.rfl;(focus (first|(simp;done)|omega|(simp;omega))))|((with_reducible apply Z9);(simp (disch:=omega) [hlt, ht, hwm];exact Red.rfl)))
          generalize (a + b + 1) / 2 = m at hmid
          have bm := bd m (by omega)
          (with_reducible apply d_call); (simp; exact Red.rfl); exact kA _ m (by omega); (focus (first | (simp; done) | (simp; omega)))
          have hw : IntKind.i64.wrap (m + ahLo (x.cl i).dr (x.cl i).sy m ((x.cl i).m - 1)) = m + ahLo (x.cl i).dr (x.cl i).sy m ((x.cl i).m - 1) := by rw [wrap64] <;> omega
          have eLm := eL m
          have st := fun t => pLo_step (c := x.cl i) (rdg := rdg) (t := t) hX
          by_cases hc : m + ahLo (x.cl i).dr (x.cl i).sy m ((x.cl i).m - 1) ≤ rdg
          · have hpm : pLo (x.cl i) rdg m = false := by rw [eLm]; simpa using hc
            repeat (first|(with_reducible first|apply X2|apply X8|apply Y2)|((with_reducible first|apply e_end|apply d_end);(simp;exact Red.rfl))|((first|((with_reducible apply O1);rfl)|((with_reducible apply P1);rfl));(simp (disch:=omega) [hw, hc];exact Red.rfl);exact Red.rfl;(focus (first|(simp;done)|omega|(simp;omega))))|((with_reducible apply Z9);(simp (disch:=omega) [hw, hc];exact Red.rfl))|((with_reducible apply P6);rfl;(simp (disch:=omega) [hw, hc];exact Red.rfl);exact Red.rfl;(focus (first|(simp [pr];done)|(simp [pr];omega)))))
            refine q_again ⟨(m, b), by simp only; omega, by simp only; omega, h3, fun m' h6 h7 => ?_, h5⟩ (by dsimp only; omega) (.inl rfl)
            simp only at h7
            cases hpm' : pLo (x.cl i) rdg m' with
            | false => rfl
            | true => have := step_up st (show m' ≤ m by omega) hpm'; rw [hpm] at this; cases this
          · have hpm : pLo (x.cl i) rdg m = true := by rw [eLm]; simpa using hc
            have hwp : IntKind.i64.wrap (m - 1) = m - 1 := by rw [wrap64] <;> omega
            repeat (first|(with_reducible first|apply X2|apply X8|apply Y2)|((with_reducible first|apply e_end|apply d_end);(simp;exact Red.rfl))|((first|((with_reducible apply O1);rfl)|((with_reducible apply P1);rfl));(simp (disch:=omega) [hw, hc, hwp];exact Red.rfl);exact Red.rfl;(focus (first|(simp;done)|omega|(simp;omega))))|((with_reducible apply W3);(simp (disch:=omega) [hw, hc, hwp];exact Red.rfl))|((with_reducible apply P6);rfl;(simp (disch:=omega) [hw, hc, hwp];exact Red.rfl);exact Red.rfl;(focus (first|(simp [pr];done)|(simp [pr];omega)))))
            exact q_again ⟨(a, m - 1), h1, by simp only; omega, by simp only; omega, h4, fun m' h6 h7 => step_up st (show m ≤ m' by simp only at h6; omega) hpm⟩ (by dsimp only; omega) (.inl rfl)
        · obtain rfl : a = b := by omega
          have hlt2 : a + 1 = max 0 (ltT (x.cl i) rdg) := ltT_from hX (by omega) ⟨by omega, by omega⟩ h4 h5
          obtain rfl : a = ltT (x.cl i) rdg - 1 := by omega
          repeat (first|(with_reducible first|apply X1|apply X2|apply X3|apply X4|apply X8|apply Y1|apply Y4|apply Y6)|((with_reducible apply e_end);(simp;exact Red.rfl))|((first|((with_reducible apply O1);rfl)|((with_reducible apply O2);rfl));(simp (disch:=omega) [hlt];exact Red.rfl);exact Red.rfl;(focus (first|(simp;done)|omega|(simp;omega))))|((with_reducible apply W3);(simp (disch:=omega) [hlt];exact Red.rfl)))
          refine q_drop (.inr rfl) (by simp; exact Red.rfl) (by simp) ⟨rfl, rfl⟩
end Go.Proofs
