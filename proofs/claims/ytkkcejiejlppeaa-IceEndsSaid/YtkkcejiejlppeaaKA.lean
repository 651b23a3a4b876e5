/- Several texts as one. -/
import Derived.Test.YtkkcejiejlppeaaRA
/- Ice: truths, as lists in memory. -/
namespace Go.Proofs
open Go.Abs
attribute [local simp] AOp.den AOpd.ev lk cellsOf rd_new rd_new0 rd_zero rd_succ wr_new wr_new0 wr_zero wr_succ splice fillA binA scal sliceCells List.length_append argsT AV.sc scL AObj.sc resV getAll AR.get AOp.slots opdSlots opdsSlots partSlots eqAt at_new0 at_new set_new0 set_new wrap64
set_option linter.unusedSimpArgs false
set_option linter.unusedVariables false
def tnL (f : Nat → Int) (n : Nat) : List Int := (List.range n).map f
theorem tnL_len (f : Nat → Int) (n : Nat) : (tnL f n).length = n := by simp [tnL]
theorem tnL_succ (f : Nat → Int) (n : Nat) : tnL f (n + 1) = tnL f n ++ [f n] := by simp [tnL, List.range_succ]
def tnV (k : Nat) (c : Cv) (t : Tn) : AV := .agg [.slice k 0 c.bs.length 1 false, .slice (k + 1) 0 c.hs.length 1 false, .int .i64 t.wear, .int .i64 t.layer]
def tnO (c : Cv) (t : Tn) : Heap := [.cells (iv (tnL t.thick c.bs.length)) true, .cells (iv (tnL t.melt c.hs.length)) true]
theorem le_two {H G : Heap} {v1 v2 : AV} {l1 l2 : List Int} {n1 n2 : Nat} {w y : Int} (h1 : AAt (H ++ G) 1 v1 (iv l1) n1) (h2 : AAt (H ++ G) 1 v2 (iv l2) n2) (b1 : ∀ i, isId v1 i → H.length ≤ i) (b2 : ∀ i, isId v2 i → H.length ≤ i)
    (ne : ∀ i, isId v1 i → ¬ isId v2 i) (p1 : 0 < n1) (p2 : 0 < n2) :
    Le H ⟨[(0, .agg [v1, v2, .int .i64 w, .int .i64 y])], H ++ G⟩ ⟨[(0, .agg [.slice H.length 0 n1 1 false, .slice (H.length + 1) 0 n2 1 false, .int .i64 w, .int .i64 y])], H ++ [.cells (iv l1) true, .cells (iv l2) true]⟩ := by
  obtain ⟨_, ⟨_, h0⟩ | ⟨i1, _, rfl, g1⟩⟩ := h1
  · omega
  obtain ⟨_, ⟨_, h0⟩ | ⟨i2, _, rfl, g2⟩⟩ := h2
  · omega
  have c1 := b1 i1 rfl
  have c2 := b2 i2 rfl
  have c3 : i1 ≠ i2 := fun h => ne i1 rfl (by subst h; rfl)
  rw [List.getElem?_append_right c1] at g1
  rw [List.getElem?_append_right c2] at g2
  refine le_plain [i1 - H.length, i2 - H.length] _ (by simp; omega) (by simp [g1, g2]) (by intro o ho; simp at ho; rcases ho with rfl | rfl <;> exact (iv_plain _).o _) ?_
  intro x hx
  simp only [List.mem_singleton] at hx
  subst hx
  refine ⟨by simp, ?_⟩
  have u1 : H.length + (i1 - H.length) = i1 := by omega
  have u2 : H.length + (i2 - H.length) = i2 := by omega
  simp [AV.ren, renL, sh, u1, u2]
  intro h
  omega
theorem get5 {H : Heap} {a b x x' : AObj} {G : Heap} {i : Nat} (h : H.length + 3 ≤ i) : (H ++ a :: b :: x :: G)[i]? = (H ++ a :: b :: x' :: G)[i]? := by
  rw [List.getElem?_append_right (by omega), List.getElem?_append_right (by omega)]
  obtain ⟨k, hk⟩ : ∃ k, i - H.length = k + 3 := ⟨i - H.length - 3, by omega⟩
  rw [hk]; rfl
theorem get6 {H : Heap} {a b x : AObj} {G T : Heap} {i : Nat} (h : i < H.length + (G.length + 3)) : (H ++ a :: b :: x :: (G ++ T))[i]? = (H ++ a :: b :: x :: G)[i]? := by
  rw [show H ++ a :: b :: x :: (G ++ T) = (H ++ a :: b :: x :: G) ++ T by simp, List.getElem?_append_left (by simp; omega)]
end Go.Proofs
/- Ice: the truths at both ends, as lists in memory. -/
namespace Go.Proofs
open Go.Abs
attribute [local simp] AOp.den AOpd.ev lk cellsOf rd_new rd_new0 rd_zero rd_succ wr_new wr_new0 wr_zero wr_succ splice fillA binA scal sliceCells List.length_append argsT AV.sc scL AObj.sc resV getAll AR.get AOp.slots opdSlots opdsSlots partSlots eqAt at_new0 at_new set_new0 set_new wrap64
set_option linter.unusedSimpArgs false
set_option linter.unusedVariables false
set_option maxHeartbeats 1000000 in
theorem c_end_w (H : Heap) (l : List Str) (c : Cv) (p : Plc) (hp : CvAt H c p) (hc : c.ok l.length) (hv : validL l) :
    ACalls Try.prog F.law02_end [.agg (c.av p), .bool false] H (fun v h' => v = tnV H.length c (endT true c) ∧ h' = H ++ tnO c (endT true c)) := by
  have hp1 := hp.t
  have hp2 := rd_lt hp.b
  have hp3 := rd_lt hp.h
  have h12 := hv.1
  have hlen := hc.len
  have h8 := hc.hours
  generalize ht : endT true c = t
  have e1 : c.w2 = t.wear := by rw [← ht]; rfl
  have e2 : c.y1 = t.layer := by rw [← ht]; rfl
  have e3 : ∀ i, (c.b i).lo = t.thick i := fun i => by rw [← ht]; rfl
  have e4 : ∀ i, (c.h i).m2 = t.melt i := fun i => by rw [← ht]; rfl
  clear ht
  generalize hbx : AObj.cells (c.av p) true = box
  simp only [Cv.av] at *
  refine acalls_of ok_law02_end rfl fun hcl => ?_
  unfold ac_law02_end
  simp only [argsT, Nat.zero_add, Nat.reduceAdd]
  subst hbx
  repeat (first|(with_reducible first|apply X1|apply X2|apply X5|apply X6|apply X8)|((with_reducible apply e_end);(simp;exact Red.rfl))|((first|((with_reducible apply O1);rfl)|((with_reducible apply O2);rfl));(simp (disch:=omega);exact Red.rfl);exact Red.rfl;(focus (first|(simp;done)|omega|(simp;omega))))|((with_reducible apply W3);(simp (disch:=omega);exact Red.rfl)))
  refine e_loop (ι := { x : Nat × AV × Heap // x.1 ≤ c.bs.length ∧ AAt (H ++ .cells [.slice p.tid p.toff p.tn 9 p.tex, .slice p.bid p.boff c.bs.length 3 p.bex, .slice p.hid p.hoff c.hs.length 5 p.hex, .int .i64 c.w1, .int .i64 c.w2, .int .i64 c.y1, .int .i64 c.y2, .int .i64 c.rate, .int .i64 c.lim, .int .i64 c.base] true :: .cells [.nilslice, .nilslice, .int .i64 0, .int .i64 0] true :: .cells [x.2.1, .nilslice, .int .i64 c.w2, .int .i64 c.y1] true :: x.2.2) 1 x.2.1 (iv (tnL t.thick x.1)) x.1 ∧ ∀ i, isId x.2.1 i → H.length + 3 ≤ i })
    (fun x => [(1, .bool false), (2, .ptr H.length 0), (4, .ptr (H.length + 1) 0), (5, .ptr (H.length + 2) 0), (28, .slice p.bid p.boff c.bs.length 3 p.bex), (29, .int .i64 c.bs.length), (30, .int .i64 x.1.1)])
    (fun x => H ++ .cells [.slice p.tid p.toff p.tn 9 p.tex, .slice p.bid p.boff c.bs.length 3 p.bex, .slice p.hid p.hoff c.hs.length 5 p.hex, .int .i64 c.w1, .int .i64 c.w2, .int .i64 c.y1, .int .i64 c.y2, .int .i64 c.rate, .int .i64 c.lim, .int .i64 c.base] true :: .cells [.nilslice, .nilslice, .int .i64 0, .int .i64 0] true :: .cells [x.1.2.1, .nilslice, .int .i64 c.w2, .int .i64 c.y1] true :: x.1.2.2) (fun x => c.bs.length - x.1.1) ⟨(0, .nilslice, []), by simp, AAt.nil _ _, fun i hi => hi.elim⟩ ?_ ?_
  · exact .inl rfl
  · rintro ⟨⟨i, tv, G⟩, hi, hA, hI⟩
    dsimp only at hi hA hI ⊢
    by_cases hlt : i < c.bs.length
    · have hlt2 : (i : Int) < c.bs.length := by omega
      have hx := hp.bed hlt
      have e3i := e3 i
      generalize c.b i = bd at *
      obtain ⟨z1, z2, z3⟩ := bd
      simp only [Bd.av] at hx
      dsimp only at e3i
      repeat (first|(with_reducible first|apply X1|apply X2|apply X5|apply X6|apply X8)|((with_reducible apply e_end);(simp;exact Red.rfl))|((first|((with_reducible apply O1);rfl)|((with_reducible apply O2);rfl));(simp (disch:=omega) [hlt, hlt2, rd_old _ hp2, hx];exact Red.rfl);exact Red.rfl;(focus (first|(simp;done)|omega|(simp;omega))))|((with_reducible apply Z9);(simp (disch:=omega) [hlt, hlt2, rd_old _ hp2, hx];exact Red.rfl))|((with_reducible apply W3);(simp (disch:=omega) [hlt, hlt2, rd_old _ hp2, hx];exact Red.rfl)))
      refine e_appA (A := H ++ [.cells [.slice p.tid p.toff p.tn 9 p.tex, .slice p.bid p.boff c.bs.length 3 p.bex, .slice p.hid p.hoff c.hs.length 5 p.hex, .int .i64 c.w1, .int .i64 c.w2, .int .i64 c.y1, .int .i64 c.y2, .int .i64 c.rate, .int .i64 c.lim, .int .i64 c.base] true, .cells [.nilslice, .nilslice, .int .i64 0, .int .i64 0] true, .cells [tv, .nilslice, .int .i64 c.w2, .int .i64 c.y1] true]) (G := G ++ [.cells [.int .i64 z1, .int .i64 z2, .int .i64 z3] true, .cells [.int .i64 z1] true])
        (cs := iv (tnL t.thick i)) (n := i) (m := 1) (new := [.int .i64 z1]) (by simp) (by simp; exact Red.rfl) (by simp; exact Red.rfl) (by have := hA.app [.cells [.int .i64 z1, .int .i64 z2, .int .i64 z3] true, .cells [.int .i64 z1] true]; simpa using this) (fun k hk => by have := hI k hk; simp; omega) (by simp) (by simp) (by omega) (by omega) ?_
      intro G2 v2 f3 f4 f5 f6 f7
      simp only [List.append_assoc, List.cons_append, List.nil_append] at f3 f4 f5 f6 f7 ⊢
      have hs2 : v2.sc (H ++ .cells [.slice p.tid p.toff p.tn 9 p.tex, .slice p.bid p.boff c.bs.length 3 p.bex, .slice p.hid p.hoff c.hs.length 5 p.hex, .int .i64 c.w1, .int .i64 c.w2, .int .i64 c.y1, .int .i64 c.y2, .int .i64 c.rate, .int .i64 c.lim, .int .i64 c.base] true :: .cells [.nilslice, .nilslice, .int .i64 0, .int .i64 0] true :: .cells [tv, .nilslice, .int .i64 c.w2, .int .i64 c.y1] true :: G2).length = true := f3.l.sc (Nat.le_refl _)
      simp only [List.length_append, List.length_cons] at hs2
      obtain ⟨hc2, ⟨_, h0⟩ | ⟨id2, _, rfl, hh2⟩⟩ := f3
      · omega
      repeat (first|(with_reducible first|apply X2|apply X8|apply Y2)|((with_reducible apply e_end);(simp;exact Red.rfl))|((first|((with_reducible apply O1);rfl)|((with_reducible apply O2);rfl));(simp (disch:=omega);exact Red.rfl);exact Red.rfl;(focus (first|(simp;done)|omega|(simp;omega)))))
      have hid2 := f4 id2 rfl
      simp at hid2
      rw [e3i, show [AV.int .i64 (t.thick i)] = iv [t.thick i] from rfl, ← iv_app, ← tnL_succ] at hh2
      refine q_again ⟨(i + 1, .slice id2 0 (i + 1) 1 false, G2), by omega, ⟨by simp [iv_length, tnL_len], .inr ⟨id2, by omega, rfl, by rw [← hh2]; exact get5 (by omega)⟩⟩, fun k hk => by have : id2 = k := hk; omega⟩ (by dsimp only; omega) (.inl (by simp))
    · have hlt2 : ¬ (i : Int) < c.bs.length := by omega
      obtain rfl : i = c.bs.length := by omega
      repeat (first|(with_reducible first|apply X1|apply X2|apply X4|apply X6|apply X8|apply Y1|apply Y4|apply Y6)|((with_reducible apply e_end);(simp;exact Red.rfl))|((with_reducible apply O1);rfl;(simp (disch:=omega) [hlt2];exact Red.rfl);exact Red.rfl;(focus (first|(simp;done)|omega|(simp;omega))))|((with_reducible apply W3);(simp (disch:=omega) [hlt2];exact Red.rfl)))
      refine e_loop (ι := { x : Nat × AV × Heap // x.1 ≤ c.hs.length ∧ AAt (H ++ .cells [.slice p.tid p.toff p.tn 9 p.tex, .slice p.bid p.boff c.bs.length 3 p.bex, .slice p.hid p.hoff c.hs.length 5 p.hex, .int .i64 c.w1, .int .i64 c.w2, .int .i64 c.y1, .int .i64 c.y2, .int .i64 c.rate, .int .i64 c.lim, .int .i64 c.base] true :: .cells [.nilslice, .nilslice, .int .i64 0, .int .i64 0] true :: .cells [tv, x.2.1, .int .i64 c.w2, .int .i64 c.y1] true :: x.2.2) 1 x.2.1 (iv (tnL t.melt x.1)) x.1 ∧ (∀ i, isId x.2.1 i → H.length + 3 ≤ i) ∧ AAt (H ++ .cells [.slice p.tid p.toff p.tn 9 p.tex, .slice p.bid p.boff c.bs.length 3 p.bex, .slice p.hid p.hoff c.hs.length 5 p.hex, .int .i64 c.w1, .int .i64 c.w2, .int .i64 c.y1, .int .i64 c.y2, .int .i64 c.rate, .int .i64 c.lim, .int .i64 c.base] true :: .cells [.nilslice, .nilslice, .int .i64 0, .int .i64 0] true :: .cells [tv, x.2.1, .int .i64 c.w2, .int .i64 c.y1] true :: x.2.2) 1 tv (iv (tnL t.thick c.bs.length)) c.bs.length ∧ ∀ i, isId tv i → ¬ isId x.2.1 i })
        (fun x => [(1, .bool false), (4, .ptr (H.length + 1) 0), (5, .ptr (H.length + 2) 0), (49, .slice p.hid p.hoff c.hs.length 5 p.hex), (50, .int .i64 c.hs.length), (51, .int .i64 x.1.1)])
        (fun x => H ++ .cells [.slice p.tid p.toff p.tn 9 p.tex, .slice p.bid p.boff c.bs.length 3 p.bex, .slice p.hid p.hoff c.hs.length 5 p.hex, .int .i64 c.w1, .int .i64 c.w2, .int .i64 c.y1, .int .i64 c.y2, .int .i64 c.rate, .int .i64 c.lim, .int .i64 c.base] true :: .cells [.nilslice, .nilslice, .int .i64 0, .int .i64 0] true :: .cells [tv, x.1.2.1, .int .i64 c.w2, .int .i64 c.y1] true :: x.1.2.2) (fun x => c.hs.length - x.1.1) ⟨(0, .nilslice, G), by simp, AAt.nil _ _, fun i hi => hi.elim, hA, fun i _ hi => hi.elim⟩ ?_ ?_
      · exact .inl rfl
      · clear hA
        rintro ⟨⟨i, mv, G⟩, hi, hM, hMI, hA, hne⟩
        dsimp only at hi hM hMI hA hne ⊢
        have hsA : tv.sc (H ++ .cells [.slice p.tid p.toff p.tn 9 p.tex, .slice p.bid p.boff c.bs.length 3 p.bex, .slice p.hid p.hoff c.hs.length 5 p.hex, .int .i64 c.w1, .int .i64 c.w2, .int .i64 c.y1, .int .i64 c.y2, .int .i64 c.rate, .int .i64 c.lim, .int .i64 c.base] true :: .cells [.nilslice, .nilslice, .int .i64 0, .int .i64 0] true :: .cells [tv, mv, .int .i64 c.w2, .int .i64 c.y1] true :: G).length = true := hA.l.sc (Nat.le_refl _)
        by_cases hlt : i < c.hs.length
        · have hlt2 : (i : Int) < c.hs.length := by omega
          have hx := hp.hour hlt
          have e4i := e4 i
          generalize c.h i = hr at *
          obtain ⟨z1, z2, z3, z4, z5⟩ := hr
          simp only [Hr.av] at hx
          dsimp only at e4i
          repeat (first|(with_reducible first|apply X1|apply X2|apply X5|apply X6|apply X8)|((with_reducible apply e_end);(simp;exact Red.rfl))|((first|((with_reducible apply O1);rfl)|((with_reducible apply O2);rfl));(simp (disch:=omega) [hlt, hlt2, rd_old _ hp3, hx];exact Red.rfl);exact Red.rfl;(focus (first|(simp;done)|omega|(simp;omega))))|((with_reducible apply Z9);(simp (disch:=omega) [hlt, hlt2, rd_old _ hp3, hx];exact Red.rfl))|((with_reducible apply W3);(simp (disch:=omega) [hlt, hlt2, rd_old _ hp3, hx];exact Red.rfl)))
          refine e_appA (A := H ++ [.cells [.slice p.tid p.toff p.tn 9 p.tex, .slice p.bid p.boff c.bs.length 3 p.bex, .slice p.hid p.hoff c.hs.length 5 p.hex, .int .i64 c.w1, .int .i64 c.w2, .int .i64 c.y1, .int .i64 c.y2, .int .i64 c.rate, .int .i64 c.lim, .int .i64 c.base] true, .cells [.nilslice, .nilslice, .int .i64 0, .int .i64 0] true, .cells [tv, mv, .int .i64 c.w2, .int .i64 c.y1] true]) (G := G ++ [.cells [.int .i64 z1, .int .i64 z2, .int .i64 z3, .int .i64 z4, .bool z5] true, .cells [.int .i64 z2] true])
            (cs := iv (tnL t.melt i)) (n := i) (m := 1) (new := [.int .i64 z2]) (by simp) (by simp; exact Red.rfl) (by simp; exact Red.rfl) (by have := hM.app [.cells [.int .i64 z1, .int .i64 z2, .int .i64 z3, .int .i64 z4, .bool z5] true, .cells [.int .i64 z2] true]; simpa using this) (fun k hk => by have := hMI k hk; simp; omega) (by simp) (by simp) (by omega) (by omega) ?_
          intro G2 v2 f3 f4 f5 f6 f7
          simp only [List.append_assoc, List.cons_append, List.nil_append] at f3 f4 f5 f6 f7 ⊢
          obtain ⟨hc2, ⟨_, h0⟩ | ⟨id2, _, rfl, hh2⟩⟩ := f3
          · omega
          repeat (first|(with_reducible first|apply X2|apply X8|apply Y2)|((with_reducible apply e_end);(simp;exact Red.rfl))|((first|((with_reducible apply O1);rfl)|((with_reducible apply O2);rfl));(simp (disch:=omega);exact Red.rfl);exact Red.rfl;(focus (first|(simp;done)|omega|(simp;omega)))))
          have hid2 := f4 id2 rfl
          have hid3 := f6 id2 rfl
          simp at hid2 hid3
          rw [e4i, show [AV.int .i64 (t.melt i)] = iv [t.melt i] from rfl, ← iv_app, ← tnL_succ] at hh2
          refine q_again ⟨(i + 1, .slice id2 0 (i + 1) 1 false, G2), by omega, ⟨by simp [iv_length, tnL_len], .inr ⟨id2, by omega, rfl, by rw [← hh2]; exact get5 (by omega)⟩⟩, fun k hk => by have : id2 = k := hk; omega, ?_, fun k hk hk2 => ?_⟩ (by dsimp only; omega) (.inl (by simp))
          · refine hA.keep fun q hq => ?_
            have l1 := hI q hq
            have l2 := hA.l.lt hq
            simp at l2
            dsimp only
            rw [get5 (x' := .cells [tv, mv, .int .i64 c.w2, .int .i64 c.y1] true) l1, f5 q (by simp; omega) (hne q hq), get6 (by omega)]
          · have : id2 = k := hk2
            have l2 := hA.l.lt hk
            simp at l2
            omega
        · have hlt2 : ¬ (i : Int) < c.hs.length := by omega
          obtain rfl : i = c.hs.length := by omega
          have hA' := hA
          have hM' := hM
          obtain ⟨_, ⟨_, h0⟩ | ⟨ti, _, rfl, _⟩⟩ := hA'
          · omega
          obtain ⟨_, ⟨_, h0⟩ | ⟨mi, _, rfl, _⟩⟩ := hM'
          · omega
          repeat (first|(with_reducible first|apply X1|apply X2|apply X3|apply X4|apply X8|apply Y1|apply Y4|apply Y6)|((with_reducible apply e_end);(simp;exact Red.rfl))|((first|((with_reducible apply O1);rfl)|((with_reducible apply O2);rfl));(simp (disch:=omega) [hlt2];exact Red.rfl);exact Red.rfl;(focus (first|(simp;done)|omega|(simp;omega))))|((with_reducible apply W3);(simp (disch:=omega) [hlt2];exact Red.rfl)))
          have kp : ∀ q, H.length + 3 ≤ q → (H ++ .cells [.slice p.tid p.toff p.tn 9 p.tex, .slice p.bid p.boff c.bs.length 3 p.bex, .slice p.hid p.hoff c.hs.length 5 p.hex, .int .i64 c.w1, .int .i64 c.w2, .int .i64 c.y1, .int .i64 c.y2, .int .i64 c.rate, .int .i64 c.lim, .int .i64 c.base] true :: .cells [.slice ti 0 c.bs.length 1 false, .slice mi 0 c.hs.length 1 false, .int .i64 c.w2, .int .i64 c.y1] true :: .cells [.slice ti 0 c.bs.length 1 false, .slice mi 0 c.hs.length 1 false, .int .i64 c.w2, .int .i64 c.y1] true :: G)[q]? = (H ++ .cells [.slice p.tid p.toff p.tn 9 p.tex, .slice p.bid p.boff c.bs.length 3 p.bex, .slice p.hid p.hoff c.hs.length 5 p.hex, .int .i64 c.w1, .int .i64 c.w2, .int .i64 c.y1, .int .i64 c.y2, .int .i64 c.rate, .int .i64 c.lim, .int .i64 c.base] true :: .cells [.nilslice, .nilslice, .int .i64 0, .int .i64 0] true :: .cells [.slice ti 0 c.bs.length 1 false, .slice mi 0 c.hs.length 1 false, .int .i64 c.w2, .int .i64 c.y1] true :: G)[q]? := fun q hq => by
            rw [List.getElem?_append_right (by omega), List.getElem?_append_right (by omega)]
            obtain ⟨k, hk⟩ : ∃ k, q - H.length = k + 3 := ⟨q - H.length - 3, by omega⟩
            rw [hk]; rfl
          refine q_post (.inr rfl) (by simp; exact Red.rfl) (le_two (hA.keep fun q hq => kp q (hI q hq)) (hM.keep fun q hq => kp q (hMI q hq)) (fun q hq => by have := hI q hq; omega) (fun q hq => by have := hMI q hq; omega) hne (by omega) (by omega)) ?_
          rw [e1, e2]
          exact ⟨rfl, rfl⟩
set_option maxHeartbeats 1000000 in
theorem c_end_b (H : Heap) (l : List Str) (c : Cv) (p : Plc) (hp : CvAt H c p) (hc : c.ok l.length) (hv : validL l) :
    ACalls Try.prog F.law02_end [.agg (c.av p), .bool true] H (fun v h' => v = tnV H.length c (endT false c) ∧ h' = H ++ tnO c (endT false c)) := by
  have hp1 := hp.t
  have hp2 := rd_lt hp.b
  have hp3 := rd_lt hp.h
  have h12 := hv.1
  have hlen := hc.len
  have h8 := hc.hours
  generalize ht : endT false c = t
  have e1 : c.w1 = t.wear := by rw [← ht]; rfl
  have e2 : c.y2 = t.layer := by rw [← ht]; rfl
  have e3 : ∀ i, (c.b i).hi = t.thick i := fun i => by rw [← ht]; rfl
  have e4 : ∀ i, (c.h i).m1 = t.melt i := fun i => by rw [← ht]; rfl
  clear ht
  generalize hbx : AObj.cells (c.av p) true = box
  simp only [Cv.av] at *
  refine acalls_of ok_law02_end rfl fun hcl => ?_
  unfold ac_law02_end
  simp only [argsT, Nat.zero_add, Nat.reduceAdd]
  subst hbx
  repeat (first|(with_reducible first|apply X1|apply X2|apply X6|apply X8)|((with_reducible apply e_end);(simp;exact Red.rfl))|((first|((with_reducible apply O1);rfl)|((with_reducible apply O2);rfl));(simp (disch:=omega);exact Red.rfl);exact Red.rfl;(focus (first|(simp;done)|omega|(simp;omega))))|((with_reducible apply Z9);(simp (disch:=omega);exact Red.rfl)))
  refine e_loop (ι := { x : Nat × AV × Heap // x.1 ≤ c.bs.length ∧ AAt (H ++ .cells [.slice p.tid p.toff p.tn 9 p.tex, .slice p.bid p.boff c.bs.length 3 p.bex, .slice p.hid p.hoff c.hs.length 5 p.hex, .int .i64 c.w1, .int .i64 c.w2, .int .i64 c.y1, .int .i64 c.y2, .int .i64 c.rate, .int .i64 c.lim, .int .i64 c.base] true :: .cells [.nilslice, .nilslice, .int .i64 0, .int .i64 0] true :: .cells [x.2.1, .nilslice, .int .i64 c.w1, .int .i64 c.y2] true :: x.2.2) 1 x.2.1 (iv (tnL t.thick x.1)) x.1 ∧ ∀ i, isId x.2.1 i → H.length + 3 ≤ i })
    (fun x => [(1, .bool true), (2, .ptr H.length 0), (4, .ptr (H.length + 1) 0), (5, .ptr (H.length + 2) 0), (28, .slice p.bid p.boff c.bs.length 3 p.bex), (29, .int .i64 c.bs.length), (30, .int .i64 x.1.1)])
    (fun x => H ++ .cells [.slice p.tid p.toff p.tn 9 p.tex, .slice p.bid p.boff c.bs.length 3 p.bex, .slice p.hid p.hoff c.hs.length 5 p.hex, .int .i64 c.w1, .int .i64 c.w2, .int .i64 c.y1, .int .i64 c.y2, .int .i64 c.rate, .int .i64 c.lim, .int .i64 c.base] true :: .cells [.nilslice, .nilslice, .int .i64 0, .int .i64 0] true :: .cells [x.1.2.1, .nilslice, .int .i64 c.w1, .int .i64 c.y2] true :: x.1.2.2) (fun x => c.bs.length - x.1.1) ⟨(0, .nilslice, []), by simp, AAt.nil _ _, fun i hi => hi.elim⟩ ?_ ?_
  · exact .inl rfl
  · rintro ⟨⟨i, tv, G⟩, hi, hA, hI⟩
    dsimp only at hi hA hI ⊢
    by_cases hlt : i < c.bs.length
    · have hlt2 : (i : Int) < c.bs.length := by omega
      have hx := hp.bed hlt
      have e3i := e3 i
      generalize c.b i = bd at *
      obtain ⟨z1, z2, z3⟩ := bd
      simp only [Bd.av] at hx
      dsimp only at e3i
      repeat (first|(with_reducible first|apply X1|apply X2|apply X5|apply X6|apply X8)|((with_reducible apply e_end);(simp;exact Red.rfl))|((first|((with_reducible apply O1);rfl)|((with_reducible apply O2);rfl));(simp (disch:=omega) [hlt, hlt2, rd_old _ hp2, hx];exact Red.rfl);exact Red.rfl;(focus (first|(simp;done)|omega|(simp;omega))))|((with_reducible apply Z9);(simp (disch:=omega) [hlt, hlt2, rd_old _ hp2, hx];exact Red.rfl)))
      refine e_appA (A := H ++ [.cells [.slice p.tid p.toff p.tn 9 p.tex, .slice p.bid p.boff c.bs.length 3 p.bex, .slice p.hid p.hoff c.hs.length 5 p.hex, .int .i64 c.w1, .int .i64 c.w2, .int .i64 c.y1, .int .i64 c.y2, .int .i64 c.rate, .int .i64 c.lim, .int .i64 c.base] true, .cells [.nilslice, .nilslice, .int .i64 0, .int .i64 0] true, .cells [tv, .nilslice, .int .i64 c.w1, .int .i64 c.y2] true]) (G := G ++ [.cells [.int .i64 z1, .int .i64 z2, .int .i64 z3] true, .cells [.int .i64 z2] true])
        (cs := iv (tnL t.thick i)) (n := i) (m := 1) (new := [.int .i64 z2]) (by simp) (by simp; exact Red.rfl) (by simp; exact Red.rfl) (by have := hA.app [.cells [.int .i64 z1, .int .i64 z2, .int .i64 z3] true, .cells [.int .i64 z2] true]; simpa using this) (fun k hk => by have := hI k hk; simp; omega) (by simp) (by simp) (by omega) (by omega) ?_
      intro G2 v2 f3 f4 f5 f6 f7
      simp only [List.append_assoc, List.cons_append, List.nil_append] at f3 f4 f5 f6 f7 ⊢
      have hs2 : v2.sc (H ++ .cells [.slice p.tid p.toff p.tn 9 p.tex, .slice p.bid p.boff c.bs.length 3 p.bex, .slice p.hid p.hoff c.hs.length 5 p.hex, .int .i64 c.w1, .int .i64 c.w2, .int .i64 c.y1, .int .i64 c.y2, .int .i64 c.rate, .int .i64 c.lim, .int .i64 c.base] true :: .cells [.nilslice, .nilslice, .int .i64 0, .int .i64 0] true :: .cells [tv, .nilslice, .int .i64 c.w1, .int .i64 c.y2] true :: G2).length = true := f3.l.sc (Nat.le_refl _)
      simp only [List.length_append, List.length_cons] at hs2
      obtain ⟨hc2, ⟨_, h0⟩ | ⟨id2, _, rfl, hh2⟩⟩ := f3
      · omega
      repeat (first|(with_reducible first|apply X2|apply X8|apply Y2)|((with_reducible apply e_end);(simp;exact Red.rfl))|((first|((with_reducible apply O1);rfl)|((with_reducible apply O2);rfl));(simp (disch:=omega);exact Red.rfl);exact Red.rfl;(focus (first|(simp;done)|omega|(simp;omega)))))
      have hid2 := f4 id2 rfl
      simp at hid2
      rw [e3i, show [AV.int .i64 (t.thick i)] = iv [t.thick i] from rfl, ← iv_app, ← tnL_succ] at hh2
      refine q_again ⟨(i + 1, .slice id2 0 (i + 1) 1 false, G2), by omega, ⟨by simp [iv_length, tnL_len], .inr ⟨id2, by omega, rfl, by rw [← hh2]; exact get5 (by omega)⟩⟩, fun k hk => by have : id2 = k := hk; omega⟩ (by dsimp only; omega) (.inl (by simp))
    · have hlt2 : ¬ (i : Int) < c.bs.length := by omega
      obtain rfl : i = c.bs.length := by omega
      repeat (first|(with_reducible first|apply X1|apply X2|apply X4|apply X6|apply X8|apply Y1|apply Y4|apply Y6)|((with_reducible apply e_end);(simp;exact Red.rfl))|((with_reducible apply O1);rfl;(simp (disch:=omega) [hlt2];exact Red.rfl);exact Red.rfl;(focus (first|(simp;done)|omega|(simp;omega))))|((with_reducible apply W3);(simp (disch:=omega) [hlt2];exact Red.rfl)))
      refine e_loop (ι := { x : Nat × AV × Heap // x.1 ≤ c.hs.length ∧ AAt (H ++ .cells [.slice p.tid p.toff p.tn 9 p.tex, .slice p.bid p.boff c.bs.length 3 p.bex, .slice p.hid p.hoff c.hs.length 5 p.hex, .int .i64 c.w1, .int .i64 c.w2, .int .i64 c.y1, .int .i64 c.y2, .int .i64 c.rate, .int .i64 c.lim, .int .i64 c.base] true :: .cells [.nilslice, .nilslice, .int .i64 0, .int .i64 0] true :: .cells [tv, x.2.1, .int .i64 c.w1, .int .i64 c.y2] true :: x.2.2) 1 x.2.1 (iv (tnL t.melt x.1)) x.1 ∧ (∀ i, isId x.2.1 i → H.length + 3 ≤ i) ∧ AAt (H ++ .cells [.slice p.tid p.toff p.tn 9 p.tex, .slice p.bid p.boff c.bs.length 3 p.bex, .slice p.hid p.hoff c.hs.length 5 p.hex, .int .i64 c.w1, .int .i64 c.w2, .int .i64 c.y1, .int .i64 c.y2, .int .i64 c.rate, .int .i64 c.lim, .int .i64 c.base] true :: .cells [.nilslice, .nilslice, .int .i64 0, .int .i64 0] true :: .cells [tv, x.2.1, .int .i64 c.w1, .int .i64 c.y2] true :: x.2.2) 1 tv (iv (tnL t.thick c.bs.length)) c.bs.length ∧ ∀ i, isId tv i → ¬ isId x.2.1 i })
        (fun x => [(1, .bool true), (4, .ptr (H.length + 1) 0), (5, .ptr (H.length + 2) 0), (49, .slice p.hid p.hoff c.hs.length 5 p.hex), (50, .int .i64 c.hs.length), (51, .int .i64 x.1.1)])
        (fun x => H ++ .cells [.slice p.tid p.toff p.tn 9 p.tex, .slice p.bid p.boff c.bs.length 3 p.bex, .slice p.hid p.hoff c.hs.length 5 p.hex, .int .i64 c.w1, .int .i64 c.w2, .int .i64 c.y1, .int .i64 c.y2, .int .i64 c.rate, .int .i64 c.lim, .int .i64 c.base] true :: .cells [.nilslice, .nilslice, .int .i64 0, .int .i64 0] true :: .cells [tv, x.1.2.1, .int .i64 c.w1, .int .i64 c.y2] true :: x.1.2.2) (fun x => c.hs.length - x.1.1) ⟨(0, .nilslice, G), by simp, AAt.nil _ _, fun i hi => hi.elim, hA, fun i _ hi => hi.elim⟩ ?_ ?_
      · exact .inl rfl
      · clear hA
        rintro ⟨⟨i, mv, G⟩, hi, hM, hMI, hA, hne⟩
        dsimp only at hi hM hMI hA hne ⊢
        have hsA : tv.sc (H ++ .cells [.slice p.tid p.toff p.tn 9 p.tex, .slice p.bid p.boff c.bs.length 3 p.bex, .slice p.hid p.hoff c.hs.length 5 p.hex, .int .i64 c.w1, .int .i64 c.w2, .int .i64 c.y1, .int .i64 c.y2, .int .i64 c.rate, .int .i64 c.lim, .int .i64 c.base] true :: .cells [.nilslice, .nilslice, .int .i64 0, .int .i64 0] true :: .cells [tv, mv, .int .i64 c.w1, .int .i64 c.y2] true :: G).length = true := hA.l.sc (Nat.le_refl _)
        by_cases hlt : i < c.hs.length
        · have hlt2 : (i : Int) < c.hs.length := by omega
          have hx := hp.hour hlt
          have e4i := e4 i
          generalize c.h i = hr at *
          obtain ⟨z1, z2, z3, z4, z5⟩ := hr
          simp only [Hr.av] at hx
          dsimp only at e4i
          repeat (first|(with_reducible first|apply X1|apply X2|apply X5|apply X6|apply X8)|((with_reducible apply e_end);(simp;exact Red.rfl))|((first|((with_reducible apply O1);rfl)|((with_reducible apply O2);rfl));(simp (disch:=omega) [hlt, hlt2, rd_old _ hp3, hx];exact Red.rfl);exact Red.rfl;(focus (first|(simp;done)|omega|(simp;omega))))|((with_reducible apply Z9);(simp (disch:=omega) [hlt, hlt2, rd_old _ hp3, hx];exact Red.rfl)))
          refine e_appA (A := H ++ [.cells [.slice p.tid p.toff p.tn 9 p.tex, .slice p.bid p.boff c.bs.length 3 p.bex, .slice p.hid p.hoff c.hs.length 5 p.hex, .int .i64 c.w1, .int .i64 c.w2, .int .i64 c.y1, .int .i64 c.y2, .int .i64 c.rate, .int .i64 c.lim, .int .i64 c.base] true, .cells [.nilslice, .nilslice, .int .i64 0, .int .i64 0] true, .cells [tv, mv, .int .i64 c.w1, .int .i64 c.y2] true]) (G := G ++ [.cells [.int .i64 z1, .int .i64 z2, .int .i64 z3, .int .i64 z4, .bool z5] true, .cells [.int .i64 z1] true])
            (cs := iv (tnL t.melt i)) (n := i) (m := 1) (new := [.int .i64 z1]) (by simp) (by simp; exact Red.rfl) (by simp; exact Red.rfl) (by have := hM.app [.cells [.int .i64 z1, .int .i64 z2, .int .i64 z3, .int .i64 z4, .bool z5] true, .cells [.int .i64 z1] true]; simpa using this) (fun k hk => by have := hMI k hk; simp; omega) (by simp) (by simp) (by omega) (by omega) ?_
          intro G2 v2 f3 f4 f5 f6 f7
          simp only [List.append_assoc, List.cons_append, List.nil_append] at f3 f4 f5 f6 f7 ⊢
          obtain ⟨hc2, ⟨_, h0⟩ | ⟨id2, _, rfl, hh2⟩⟩ := f3
          · omega
          repeat (first|(with_reducible first|apply X2|apply X8|apply Y2)|((with_reducible apply e_end);(simp;exact Red.rfl))|((first|((with_reducible apply O1);rfl)|((with_reducible apply O2);rfl));(simp (disch:=omega);exact Red.rfl);exact Red.rfl;(focus (first|(simp;done)|omega|(simp;omega)))))
          have hid2 := f4 id2 rfl
          have hid3 := f6 id2 rfl
          simp at hid2 hid3
          rw [e4i, show [AV.int .i64 (t.melt i)] = iv [t.melt i] from rfl, ← iv_app, ← tnL_succ] at hh2
          refine q_again ⟨(i + 1, .slice id2 0 (i + 1) 1 false, G2), by omega, ⟨by simp [iv_length, tnL_len], .inr ⟨id2, by omega, rfl, by rw [← hh2]; exact get5 (by omega)⟩⟩, fun k hk => by have : id2 = k := hk; omega, ?_, fun k hk hk2 => ?_⟩ (by dsimp only; omega) (.inl (by simp))
          · refine hA.keep fun q hq => ?_
            have l1 := hI q hq
            have l2 := hA.l.lt hq
            simp at l2
            dsimp only
            rw [get5 (x' := .cells [tv, mv, .int .i64 c.w1, .int .i64 c.y2] true) l1, f5 q (by simp; omega) (hne q hq), get6 (by omega)]
          · have : id2 = k := hk2
            have l2 := hA.l.lt hk
            simp at l2
            omega
        · have hlt2 : ¬ (i : Int) < c.hs.length := by omega
          obtain rfl : i = c.hs.length := by omega
          have hA' := hA
          have hM' := hM
          obtain ⟨_, ⟨_, h0⟩ | ⟨ti, _, rfl, _⟩⟩ := hA'
          · omega
          obtain ⟨_, ⟨_, h0⟩ | ⟨mi, _, rfl, _⟩⟩ := hM'
          · omega
          repeat (first|(with_reducible first|apply X1|apply X2|apply X3|apply X4|apply X8|apply Y1|apply Y4|apply Y6)|((with_reducible apply e_end);(simp;exact Red.rfl))|((first|((with_reducible apply O1);rfl)|((with_reducible apply O2);rfl));(simp (disch:=omega) [hlt2];exact Red.rfl);exact Red.rfl;(focus (first|(simp;done)|omega|(simp;omega))))|((with_reducible apply W3);(simp (disch:=omega) [hlt2];exact Red.rfl)))
          have kp : ∀ q, H.length + 3 ≤ q → (H ++ .cells [.slice p.tid p.toff p.tn 9 p.tex, .slice p.bid p.boff c.bs.length 3 p.bex, .slice p.hid p.hoff c.hs.length 5 p.hex, .int .i64 c.w1, .int .i64 c.w2, .int .i64 c.y1, .int .i64 c.y2, .int .i64 c.rate, .int .i64 c.lim, .int .i64 c.base] true :: .cells [.slice ti 0 c.bs.length 1 false, .slice mi 0 c.hs.length 1 false, .int .i64 c.w1, .int .i64 c.y2] true :: .cells [.slice ti 0 c.bs.length 1 false, .slice mi 0 c.hs.length 1 false, .int .i64 c.w1, .int .i64 c.y2] true :: G)[q]? = (H ++ .cells [.slice p.tid p.toff p.tn 9 p.tex, .slice p.bid p.boff c.bs.length 3 p.bex, .slice p.hid p.hoff c.hs.length 5 p.hex, .int .i64 c.w1, .int .i64 c.w2, .int .i64 c.y1, .int .i64 c.y2, .int .i64 c.rate, .int .i64 c.lim, .int .i64 c.base] true :: .cells [.nilslice, .nilslice, .int .i64 0, .int .i64 0] true :: .cells [.slice ti 0 c.bs.length 1 false, .slice mi 0 c.hs.length 1 false, .int .i64 c.w1, .int .i64 c.y2] true :: G)[q]? := fun q hq => by
            rw [List.getElem?_append_right (by omega), List.getElem?_append_right (by omega)]
            obtain ⟨k, hk⟩ : ∃ k, q - H.length = k + 3 := ⟨q - H.length - 3, by omega⟩
            rw [hk]; rfl
          refine q_post (.inr rfl) (by simp; exact Red.rfl) (le_two (hA.keep fun q hq => kp q (hI q hq)) (hM.keep fun q hq => kp q (hMI q hq)) (fun q hq => by have := hI q hq; omega) (fun q hq => by have := hMI q hq; omega) hne (by omega) (by omega)) ?_
          rw [e1, e2]
          exact ⟨rfl, rfl⟩
end Go.Proofs
/- Ice: how ice goes, hour by hour, by a truth: what stands in memory. -/
namespace Go.Proofs
open Go.Abs
attribute [local simp] AOp.den AOpd.ev lk cellsOf rd_new rd_new0 rd_zero rd_succ wr_new wr_new0 wr_zero wr_succ splice fillA binA scal sliceCells List.length_append argsT AV.sc scL AObj.sc resV getAll AR.get AOp.slots opdSlots opdsSlots partSlots eqAt at_new0 at_new set_new0 set_new wrap64
set_option linter.unusedSimpArgs false
set_option linter.unusedVariables false
theorem iv_tn (f : Nat → Int) (n : Nat) : iv (tnL f n) = avL f n := by simp [iv, tnL, avL]
theorem wr_set {H : Heap} {id i : Nat} {f g : Nat → Int} {n : Nat} {x : Int} (h : H[id]? = some (.cells (avL f n) true)) (hi : i < n) (hg : ∀ j, g j = if j = i then x else f j) :
    wr H id i [.int .i64 x] = some (H.set id (.cells (avL g n) true)) := by
  unfold wr
  simp only [h, List.length_cons, List.length_nil, avL_length]
  rw [if_pos (by omega)]
  congr 3
  apply List.ext_getElem
  · simp [splice, avL_length]; omega
  · intro k h1 h2
    simp only [splice, List.length_cons, List.length_nil]
    rw [avL_length] at h2
    have e : ∀ (f : Nat → Int) (h : k < (avL f n).length), (avL f n)[k] = .int .i64 (f k) := fun f h => by simp [avL]
    rw [e g]
    rcases Nat.lt_trichotomy k i with h3 | h3 | h3
    · rw [List.getElem_append_left (by simp [avL_length]; omega), List.getElem_append_left (by simp [avL_length]; omega), List.getElem_take, e f, hg, if_neg (by omega)]
    · subst h3
      rw [List.getElem_append_left (by simp [avL_length]; omega), List.getElem_append_right (by simp [avL_length]; omega)]
      simp [avL_length, hg]
    · rw [List.getElem_append_right (by simp [avL_length]; omega), List.getElem_drop]
      have : i + 1 + (k - ((avL f n).take i ++ [AV.int .i64 x]).length) = k := by simp [avL_length]; omega
      simp only [this, e f, hg, if_neg (show ¬ k = i by omega)]
theorem rd_cell {H : Heap} {id i : Nat} {f : Nat → Int} {n : Nat} {b : Bool} (h : H[id]? = some (.cells (avL f n) b)) (hi : i < n) : rd H id i 1 = some [.int .i64 (f i)] := by
  unfold rd
  simp only [h, avL_length]
  rw [if_pos (by omega)]
  have e : (avL f n).drop i = .int .i64 (f i) :: (avL f n).drop (i + 1) := by
    rw [List.drop_eq_getElem_cons (by rw [avL_length]; omega)]; congr 1; simp [avL]
  rw [e]; rfl
structure GS (A : Heap) (nb : Nat) (R : Nat → Nat → Int) (m : Nat) (N : Nat → Int) (T : List (Int × Int)) (n : Nat) (ids : Nat → Nat) (av tv : AV) (G : Heap) : Prop where
  all : AAt (A ++ G) 1 av (rwV (fun k => .slice (A.length + ids k) 0 nb 1 false) m) m
  now : G[n]? = some (.cells (avL N nb) true)
  rows : ∀ k, k < m → G[ids k]? = some (.cells (avL (R k) nb) true)
  thin : AAt (A ++ G) 2 tv (pv T) T.length
  alo : ∀ i, isId av i → A.length ≤ i ∧ i ≠ A.length + n ∧ (¬ isId tv i) ∧ ∀ k, k < m → i ≠ A.length + ids k
  tlo : ∀ i, isId tv i → A.length ≤ i ∧ i ≠ A.length + n ∧ ∀ k, k < m → i ≠ A.length + ids k
  ne2 : ∀ k, k < m → ids k ≠ n
  ne3 : ∀ k j, k < m → j < m → k ≠ j → ids k ≠ ids j
section
variable {A : Heap} {nb : Nat} {R : Nat → Nat → Int} {m : Nat} {N : Nat → Int} {T : List (Int × Int)} {n : Nat} {ids : Nat → Nat} {av tv : AV} {G : Heap}
theorem GS.nlt (h : GS A nb R m N T n ids av tv G) : n < G.length := (List.getElem?_eq_some_iff.1 h.now).1
theorem GS.klt (h : GS A nb R m N T n ids av tv G) {k : Nat} (hk : k < m) : ids k < G.length := (List.getElem?_eq_some_iff.1 (h.rows k hk)).1
theorem GS.alt (h : GS A nb R m N T n ids av tv G) {i : Nat} (hi : isId av i) : i < A.length + G.length := by have := h.all.l.lt hi; simpa using this
theorem GS.tlt (h : GS A nb R m N T n ids av tv G) {i : Nat} (hi : isId tv i) : i < A.length + G.length := by have := h.thin.l.lt hi; simpa using this
theorem GS.keep (h : GS A nb R m N T n ids av tv G) {G' : Heap} (hk : ∀ i, i < G.length → G'[i]? = G[i]?) : GS A nb R m N T n ids av tv G' := by
  have hA : ∀ i, A.length ≤ i → i < A.length + G.length → (A ++ G')[i]? = (A ++ G)[i]? := fun i h1 h2 => by
    rw [List.getElem?_append_right h1, List.getElem?_append_right h1, hk _ (by omega)]
  exact ⟨h.all.keep fun i hi => hA i (h.alo i hi).1 (h.alt hi), by rw [hk _ h.nlt]; exact h.now, fun k hk' => by rw [hk _ (h.klt hk')]; exact h.rows k hk',
    h.thin.keep fun i hi => hA i (h.tlo i hi).1 (h.tlt hi), h.alo, h.tlo, h.ne2, h.ne3⟩
theorem GS.app (h : GS A nb R m N T n ids av tv G) (X : Heap) : GS A nb R m N T n ids av tv (G ++ X) := h.keep fun i hi => List.getElem?_append_left hi
theorem GS.set (h : GS A nb R m N T n ids av tv G) (N' : Nat → Int) : GS A nb R m N' T n ids av tv (G.set n (.cells (avL N' nb) true)) := by
  have hne : ∀ i, i ≠ n → (G.set n (.cells (avL N' nb) true))[i]? = G[i]? := fun i hi => by rw [List.getElem?_set, if_neg (by omega)]
  have hA : ∀ i, A.length ≤ i → i ≠ A.length + n → (A ++ G.set n (.cells (avL N' nb) true))[i]? = (A ++ G)[i]? := fun i h1 h2 => by
    rw [List.getElem?_append_right h1, List.getElem?_append_right h1, hne _ (by omega)]
  exact ⟨h.all.keep fun i hi => hA i (h.alo i hi).1 (h.alo i hi).2.1, by rw [List.getElem?_set, if_pos rfl, if_pos h.nlt], fun k hk' => by rw [hne _ (h.ne2 k hk')]; exact h.rows k hk',
    h.thin.keep fun i hi => hA i (h.tlo i hi).1 (h.tlo i hi).2.1, h.alo, h.tlo, h.ne2, h.ne3⟩
theorem GS.cell (h : GS A nb R m N T n ids av tv G) {i : Nat} (hi : i < nb) (X : Heap) : rd (G ++ X) n i 1 = some [.int .i64 (N i)] := rd_cell (h.app X).now hi
theorem GS.put (h : GS A nb R m N T n ids av tv G) {i : Nat} (hi : i < nb) (x : Int) : wr G n i [.int .i64 x] = some (G.set n (.cells (avL (fun j => if j = i then x else N j) nb) true)) := wr_set h.now hi fun _ => rfl
theorem GS.more (h : GS A nb R m N T n ids av tv G) {G' : Heap} {tv' : AV} {T' : List (Int × Int)} (h1 : AAt (A ++ G') 2 tv' (pv T') T'.length) (h2 : ∀ i, isId tv' i → A.length + G.length ≤ i)
    (h3 : ∀ i, i < A.length + G.length → ¬ isId tv i → (A ++ G')[i]? = (A ++ G)[i]?) : GS A nb R m N T' n ids av tv' G' := by
  have hG : ∀ i, i < G.length → ¬ isId tv (A.length + i) → G'[i]? = G[i]? := fun i h4 h5 => by
    have := h3 (A.length + i) (by omega) h5
    simpa [at_new] using this
  refine ⟨h.all.keep fun i hi => h3 i (h.alt hi) (h.alo i hi).2.2.1, ?_, fun k hk => ?_, h1, fun i hi => ⟨(h.alo i hi).1, (h.alo i hi).2.1, fun hh => ?_, (h.alo i hi).2.2.2⟩, fun i hi => ?_, h.ne2, h.ne3⟩
  · rw [hG _ h.nlt fun hh => (h.tlo _ hh).2.1 rfl]; exact h.now
  · rw [hG _ (h.klt hk) fun hh => (h.tlo _ hh).2.2 k hk rfl]; exact h.rows k hk
  · have := h2 i hh; have := h.alt hi; omega
  · have := h2 i hi
    have := h.nlt
    exact ⟨by omega, by omega, fun k hk => by have := h.klt hk; omega⟩
theorem GS.row (h : GS A nb R m N T n ids av tv G) {G' : Heap} {av' : AV} {q : Nat} (hq : G.length ≤ q) (h0 : G'[q]? = some (.cells (avL N nb) true)) (hN : ∀ j, j < nb → R m j = N j)
    (h1 : AAt (A ++ G') 1 av' (rwV (fun k => .slice (A.length + ids k) 0 nb 1 false) m ++ [.slice (A.length + q) 0 nb 1 false]) (m + 1)) (h2 : ∀ i, isId av' i → A.length + q < i)
    (h3 : ∀ i, i < A.length + G.length → ¬ isId av i → (A ++ G')[i]? = (A ++ G)[i]?) : GS A nb R (m + 1) N T n (fun k => if k = m then q else ids k) av' tv G' := by
  have hG : ∀ i, i < G.length → ¬ isId av (A.length + i) → G'[i]? = G[i]? := fun i h4 h5 => by
    have := h3 (A.length + i) (by omega) h5
    simpa [at_new] using this
  have hRN : avL (R m) nb = avL N nb := by
    apply List.map_congr_left
    intro j hj
    rw [hN j (List.mem_range.1 hj)]
  refine ⟨?_, ?_, fun k hk => ?_, h.thin.keep fun i hi => h3 i (h.tlt hi) fun hh => (h.alo i hh).2.2.1 hi, fun i hi => ?_, fun i hi => ?_, fun k hk => ?_, fun k j hk hj hne => ?_⟩
  · have e : rwV (fun k => .slice (A.length + if k = m then q else ids k) 0 nb 1 false) (m + 1) = rwV (fun k => .slice (A.length + ids k) 0 nb 1 false) m ++ [AV.slice (A.length + q) 0 nb 1 false] := by
      simp only [rwV, List.range_succ, List.map_append, List.map_cons, List.map_nil, if_true]
      congr 1
      apply List.map_congr_left
      intro k hk
      have := List.mem_range.1 hk
      rw [if_neg (by omega)]
    rw [e]; exact h1
  · rw [hG _ h.nlt fun hh => (h.alo _ hh).2.1 rfl]; exact h.now
  · by_cases hkm : k = m
    · subst hkm; simp only [if_true]; rw [hRN]; exact h0
    · have hk' : k < m := by omega
      simp only [if_neg hkm]
      rw [hG _ (h.klt hk') fun hh => (h.alo _ hh).2.2.2 k hk' rfl]; exact h.rows k hk'
  · have := h2 i hi
    have := h.nlt
    refine ⟨by omega, by omega, fun hh => by have := h.tlt hh; omega, fun k hk => ?_⟩
    by_cases hkm : k = m
    · simp only [hkm, if_true]; omega
    · have := h.klt (show k < m by omega); simp only [if_neg hkm]; omega
  · have := h.tlo i hi
    refine ⟨this.1, this.2.1, fun k hk => ?_⟩
    by_cases hkm : k = m
    · have := h.tlt hi; simp only [hkm, if_true]; omega
    · simp only [if_neg hkm]; exact this.2.2 k (by omega)
  · have := h.nlt
    by_cases hkm : k = m
    · simp only [hkm, if_true]; omega
    · simp only [if_neg hkm]; exact h.ne2 k (by omega)
  · by_cases hkm : k = m
    · have := h.klt (show j < m by omega)
      simp only [hkm, if_true, if_neg (show ¬ j = m by omega)]; omega
    · by_cases hjm : j = m
      · have := h.klt (show k < m by omega)
        simp only [hjm, if_true, if_neg hkm]; omega
      · simp only [if_neg hkm, if_neg hjm]; exact h.ne3 k j (by omega) (by omega) hne
def goO (k : Nat) (nb : Nat) (R : Nat → Nat → Int) (m : Nat) (T : List (Int × Int)) : Heap :=
  .cells (rwV (fun j => .slice (k + 1 + j) 0 nb 1 false) m) true :: ((List.range m).map fun j => .cells (avL (R j) nb) true) ++ lsO T.length (pv T)
def goV (k m : Nat) (T : List (Int × Int)) : AV := .tuple [.slice k 0 m 1 false, if T.length = 0 then .nilslice else .slice (k + 1 + m) 0 T.length 2 false]
end
def chT (c : Cv) (us : List Int) (a : Int) : Tn := ⟨fun i => someF (c.b i).lo (c.b i).hi (chooseF us (a + 2 + i)), fun i => someF (c.h i).m1 (c.h i).m2 (chooseF us (a + 30 + i)), someF c.w1 c.w2 (chooseF us a), someF c.y1 c.y2 (chooseF us (a + 1))⟩
end Go.Proofs
/- Ice: a truth by choices, as lists in memory. -/
namespace Go.Proofs
open Go.Abs
attribute [local simp] AOp.den AOpd.ev lk cellsOf rd_new rd_new0 rd_zero rd_succ wr_new wr_new0 wr_zero wr_succ splice fillA binA scal sliceCells List.length_append argsT AV.sc scL AObj.sc resV getAll AR.get AOp.slots opdSlots opdsSlots partSlots eqAt at_new0 at_new set_new0 set_new wrap64
set_option linter.unusedSimpArgs false
set_option linter.unusedVariables false
end Go.Proofs
