/- Several texts as one. -/
import Derived.Test.YtpfliplcnjndpaaJA
/- Ice: the two truths at the ends, and what is told of them. -/
namespace Go.Proofs
open Go.Abs
attribute [local simp] AOp.den AOpd.ev lk cellsOf rd_new rd_new0 rd_zero rd_succ wr_new wr_new0 wr_zero wr_succ splice fillA binA scal sliceCells List.length_append argsT AV.sc scL AObj.sc resV getAll AR.get AOp.slots opdSlots opdsSlots partSlots eqAt at_new0 at_new set_new0 set_new wrap64
set_option linter.unusedSimpArgs false
set_option linter.unusedVariables false
theorem c_worst (H : Heap) (c : Cv) (p : Plc) (hp : CvAt H c p) : ACalls Try.prog F.ice_coat_worst [.agg (c.av p)] H (fun v h' => v = .agg (c.tv p true) ∧ h' = H) := by
  have hp1 := hp.t
  have hp2 := rd_lt hp.b
  have hp3 := rd_lt hp.h
  simp only [Cv.av, Cv.tv, mdF, tnF, if_true]
  refine acalls_of ok_ice_coat_worst rfl fun hcl => ?_
  unfold ac_ice_coat_worst
  simp only [argsT, Nat.zero_add, Nat.reduceAdd]
  repeat (first|(with_reducible first|apply X1|apply X2|apply X3|apply X8)|((with_reducible apply e_end);(simp;exact Red.rfl))|((first|((with_reducible apply O1);rfl)|((with_reducible apply O2);rfl));(simp (disch:=omega);exact Red.rfl);exact Red.rfl;(focus (first|(simp;done)|omega|(simp;omega)))))
  refine q_drop (.inr rfl) (by simp; exact Red.rfl) (by simp; omega) ⟨rfl, rfl⟩
theorem c_truths (H : Heap) (c : Cv) (p : Plc) (hp : CvAt H c p) : ACalls Try.prog F.ice_coat_truths [.agg (c.av p)] H (fun v h' => v = .fn (.func F.ice_coat_truths_1) [] [.ptr H.length 0] ∧ h' = H ++ [.cells (c.av p) true]) := by
  have hp1 := hp.t
  have hp2 := rd_lt hp.b
  have hp3 := rd_lt hp.h
  simp only [Cv.av]
  refine acalls_of ok_ice_coat_truths rfl fun hcl => ?_
  unfold ac_ice_coat_truths
  simp only [argsT, Nat.zero_add, Nat.reduceAdd]
  repeat (first|(with_reducible first|apply X1|apply X2|apply X3|apply X8)|((with_reducible apply e_end);(simp;exact Red.rfl))|((with_reducible apply O1);rfl;(simp (disch:=omega);exact Red.rfl);exact Red.rfl;(focus (first|(simp;done)|omega|(simp;omega)))))
  refine q_stay (.inr rfl) (by simp; exact Red.rfl) ⟨rfl, rfl⟩
theorem c_truths1 (Y : Nat → Heap) (y pid : Nat) (c : Cv) (p : Plc) (hp : ∀ i, i ≤ 1 → CvAt (Y i) c p) (hpc : ∀ i, i ≤ 1 → (Y i)[pid]? = some (.cells (c.av p) true))
    (hy : ∀ i : Nat, i ≤ 1 → AYields Try.prog y [.int .i64 i, .agg (c.tv p (decide (i = 0)))] (Y i) (fun v h' => v = .bool true ∧ h' = Y (i + 1))) :
    ACalls Try.prog F.ice_coat_truths_1 [.yield y, .ptr pid 0] (Y 0) (fun _ h' => h' = Y 2) := by
  have rdp : ∀ i, i ≤ 1 → rd (Y i) pid 0 10 = some (c.av p) := by
    intro i hi
    unfold rd
    simp only [hpc i hi]
    rw [if_pos (by simp [Cv.av])]
    simp [Cv.av]
  have r0 := rdp 0 (by omega)
  have r1 := rdp 1 (by omega)
  have y0 := hy 0 (by omega)
  have y1 := hy 1 (by omega)
  have cw := c_worst (Y 0) c p (hp 0 (by omega))
  simp only [Cv.av, Cv.tv, mdF, tnF, if_true, decide_true, decide_false, Nat.one_ne_zero, Bool.false_eq_true, if_false, Nat.zero_add, Nat.reduceAdd] at *
  refine acalls_of ok_ice_coat_truths_1 rfl fun hcl => ?_
  unfold ac_ice_coat_truths_1
  simp only [argsT, Nat.zero_add, Nat.reduceAdd]
  repeat (first|(with_reducible first|apply X1|apply X2)|((with_reducible apply O1);rfl;(simp (disch:=omega) [r0];exact Red.rfl);exact Red.rfl;(focus (first|(simp;done)|omega|(simp;omega)))))
  (with_reducible apply e_call); (simp; exact Red.rfl); exact cw
  rintro _ _ ⟨rfl, rfl⟩
  skip
  (with_reducible apply e_callY); (simp; exact Red.rfl); (simp; exact Red.rfl); exact y0
  rintro _ _ ⟨rfl, rfl⟩
  repeat (first|(with_reducible first|apply X2|apply X8)|((with_reducible apply e_end);(simp;exact Red.rfl))|((with_reducible apply O1);rfl;(simp (disch:=omega) [r1];exact Red.rfl);exact Red.rfl;(focus (first|(simp;done)|omega|(simp;omega))))|((with_reducible apply Z9);(simp (disch:=omega) [r1];exact Red.rfl)))
  (with_reducible apply e_callY); (simp; exact Red.rfl); (simp; exact Red.rfl); exact y1
  rintro _ _ ⟨rfl, rfl⟩
  repeat ((with_reducible apply e_end);(simp;exact Red.rfl))
  exact q_stay (v := .tuple []) (.inl rfl) (by simp; exact Red.rfl) rfl

/-- An answer of Check, or of checkPlan, that is an error. -/
def lossE (l : List Str) (c : Cv) (s h : Int) (lo hi e : Int) : Prop :=
  (¬ (validL l ∧ c.ok l.length) ∧ chkE l c e ∧ e ≠ 0 ∧ lo = 0 ∧ hi = 0) ∨ (validL l ∧ c.ok l.length ∧ ¬ ((0 ≤ s ∧ s < c.bs.length) ∧ 0 ≤ h ∧ h < c.hs.length) ∧ e = 2 ∧ lo = 0 ∧ hi = 0) ∨
  (validL l ∧ c.ok l.length ∧ ((0 ≤ s ∧ s < c.bs.length) ∧ 0 ≤ h ∧ h < c.hs.length) ∧ e = 0 ∧ lo = lossF c (endT false c) s.toNat h.toNat ∧ hi = lossF c (endT true c) s.toNat h.toNat)
theorem e_truths {H : Heap} {Q : Exit → St → Prop} {t : List (Nat × AV)} {h : Heap} {f : AOpd} {ps : List Nat} {a b : AC} (c : Cv) (p : Plc) {pid : Nat} (Y1 Y2 : Heap) (hf : Red (f.ev t) (.fn (.func F.ice_coat_truths_1) [] [.ptr pid 0])) (ht : tSc h.length t = true) (hps : ps.length = 2) (hc0 : CvAt h c p) (hb0 : h[pid]? = some (.cells (c.av p) true))
    (hy0 : ECode Try.prog (h ++ [.other (.loop t ps a b .ready)]) a (EBegin Try.prog (h ++ [.other (.loop t ps a b .ready)]) h.length b (fun v h' => v = .bool true ∧ h' = Y1)) (roundT ps [.int .i64 0, .agg (c.tv p true)] t) (h ++ [.other (.loop t ps a b .ready)]))
    (hc1 : CvAt Y1 c p) (hb1 : Y1[pid]? = some (.cells (c.av p) true)) (hl1 : Y1[h.length]? = some (.other (.loop t ps a b .ready)))
    (hy1 : ECode Try.prog Y1 a (EBegin Try.prog Y1 h.length b (fun v h' => v = .bool true ∧ h' = Y2)) (roundT ps [.int .i64 1, .agg (c.tv p false)] t) Y1)
    (hn : RangeEnd h.length t Q Y2) : ECode Try.prog H (.rangeFunc f ps a b) Q t h := by
  have hl := (List.getElem?_eq_some_iff.1 hb0).1
  refine e_range (R := fun _ h' => h' = Y2) hf ht Red.rfl ?_ (by rintro _ _ rfl; exact hn)
  have key := c_truths1 (fun i => match i with | 0 => h ++ [.other (.loop t ps a b .ready)] | 1 => Y1 | _ => Y2) h.length pid c p (fun i hi => by
      match i, hi with
      | 0, _ => exact hc0.app _
      | 1, _ => exact hc1) (fun i hi => by
      match i, hi with
      | 0, _ => show (h ++ _)[pid]? = _; rw [List.getElem?_append_left hl]; exact hb0
      | 1, _ => exact hb1) (fun i hi => by
      match i, hi with
      | 0, _ => exact y_of (by simp) hps.symm fun _ => hy0
      | 1, _ => exact y_of hl1 hps.symm fun _ => hy1)
  exact key
end Go.Proofs
/- Ice: how thick it is, told. -/
namespace Go.Proofs
open Go.Abs
attribute [local simp] AOp.den AOpd.ev lk cellsOf rd_new rd_new0 rd_zero rd_succ wr_new wr_new0 wr_zero wr_succ splice fillA binA scal sliceCells List.length_append argsT AV.sc scL AObj.sc resV getAll AR.get AOp.slots opdSlots opdsSlots partSlots eqAt at_new0 at_new set_new0 set_new wrap64
set_option linter.unusedSimpArgs false
set_option linter.unusedVariables false
def thickE (l : List Str) (c : Cv) (n : Nat) (L : Nat → List Int) (s h : Int) (lo hi e : Int) : Prop :=
  (plE l c n L e ∧ e ≠ 0 ∧ lo = 0 ∧ hi = 0) ∨ (validL l ∧ c.ok l.length ∧ (n = c.hs.length ∧ okPl c L) ∧ ¬ ((0 ≤ s ∧ s < c.bs.length) ∧ 0 ≤ h ∧ h ≤ c.hs.length) ∧ e = 2 ∧ lo = 0 ∧ hi = 0) ∨
  (validL l ∧ c.ok l.length ∧ (n = c.hs.length ∧ okPl c L) ∧ ((0 ≤ s ∧ s < c.bs.length) ∧ 0 ≤ h ∧ h ≤ c.hs.length) ∧ e = 0 ∧ lo = befF c (endT true c) (inP L) s.toNat h.toNat ∧ hi = befF c (endT false c) (inP L) s.toNat h.toNat)
theorem c_iThickG (H : Heap) (l : List Str) (c : Cv) (p : Plc) (hp : CvAt H c p) (ht : TrAt H l p) (hn : (l.length : Int) < 1000000) (hn1 : (c.bs.length : Int) < 1000000) (hn2 : (c.hs.length : Int) < 1000000)
    (pl : AV) (n : Nat) (L : Nat → List Int) (hpl : PlAt H pl n L) (hL : ∀ k, k < n → ((L k).length : Int) < 1000000) (hn3 : (n : Int) < 1000000) (s h : Int) :
    ACalls Try.prog F.ice_Thick [.agg (c.av p), pl, .int .i64 s, .int .i64 h] H (fun v h' => h' = H ∧ ∃ lo hi e : Int, v = .tuple [.agg [.int .i64 lo, .int .i64 hi], .int .i64 e] ∧ thickE l c n L s h lo hi e) := by
  have k0 := fun G => c_checkPlan (H ++ G) l c p (hp.app G) (ht.app G) hn hn1 hn2 pl n L (hpl.app G) hL hn3
  have kt := fun G => c_truths (H ++ G) c p (hp.app G)
  have hp1 := hp.t
  have hp2 := rd_lt hp.b
  have hp3 := rd_lt hp.h
  have hpa := fun G => hp.app G
  have hpla := fun G => hpl.app G
  obtain ⟨pid, poff, pex, rfl, hpid, hrow⟩ := hpl.get
  simp only [Cv.av] at *
  refine acalls_of ok_ice_Thick rfl fun hcl => ?_
  unfold ac_ice_Thick
  simp only [argsT, Nat.zero_add, Nat.reduceAdd]
  repeat (first|(with_reducible first|apply X1|apply X2|apply X8)|((with_reducible apply e_end);(simp;exact Red.rfl))|((with_reducible apply O1);rfl;(simp (disch:=omega);exact Red.rfl);exact Red.rfl;(focus (first|(simp;done)|omega|(simp;omega)))))
  (with_reducible apply e_call); (simp; exact Red.rfl); exact k0 _
  rintro _ _ ⟨rfl, e, rfl, hv⟩
  by_cases he : e = 0
  rotate_left
  · repeat (first|(with_reducible first|apply X1|apply X2|apply X3|apply X8|apply X9)|((with_reducible apply e_end);(simp;exact Red.rfl))|((first|((with_reducible apply O1);rfl)|((with_reducible apply O2);rfl));(simp (disch:=omega) [he];exact Red.rfl);exact Red.rfl;(focus (first|(simp;done)|omega|(simp;omega))))|((with_reducible apply Z9);(simp (disch:=omega) [he];exact Red.rfl)))
    refine q_drop (.inr rfl) (by simp; exact Red.rfl) (by simp) ⟨rfl, 0, 0, e, rfl, .inl ⟨hv, he, rfl, rfl⟩⟩
  subst he
  obtain ⟨hv, hc, ⟨rfl, hok⟩, _⟩ | h | h := hv
  rotate_left
  · exact absurd rfl h.2.2
  · exact absurd h.2.2.2 (by decide)
  have h12 := hv.1
  have hlen := hc.len
  have h8 := hc.hours
  obtain ⟨b1, h1⟩ := bof (0 ≤ s ∧ s ≤ (c.bs.length : Int) - 1)
  obtain ⟨b2, h2⟩ := bof (0 ≤ h ∧ h ≤ (c.hs.length : Int))
  have no : (b1 = false ∨ b2 = false) → thickE l c c.hs.length L s h 0 0 2 := fun hb => by
    refine .inr (.inl ⟨hv, hc, ⟨rfl, hok⟩, ?_, rfl, rfl, rfl⟩)
    rintro ⟨h3, h4⟩
    rcases hb with rfl | rfl
    · have := h1.2 ⟨h3.1, by omega⟩; cases this
    · have := h2.2 ⟨h4.1, by omega⟩; cases this
  repeat (first|(with_reducible first|apply X1|apply X2|apply X5|apply X8|apply Y9)|((with_reducible apply e_end);(simp;exact Red.rfl))|((first|((with_reducible apply O1);rfl)|((with_reducible apply P1);rfl)|((with_reducible apply P2);rfl));(simp (disch:=omega);exact Red.rfl);exact Red.rfl;(focus (first|(simp;done)|omega|(simp;omega))))|((with_reducible apply W3);(simp (disch:=omega);exact Red.rfl)))
  (with_reducible apply d_call); (simp; exact Red.rfl); exact c_upto _ _; (focus (first | (simp; done) | (simp; omega)))
  repeat (first|((with_reducible apply P3);rfl;(simp (disch:=omega);exact Red.rfl);exact Red.rfl;(focus (first|(simp;done)|omega|(simp;omega))))|((with_reducible apply P6);rfl;(simp (disch:=omega);exact Red.rfl);exact Red.rfl;(focus (first|(simp [pr];done)|(simp [pr];omega)))))
  (with_reducible apply d_call); (simp; exact Red.rfl); exact c_within1 _ _ _ _ _ _ _ h1 (by simp); (focus (first | (simp; done) | (simp; omega)))
  cases b1 with
  | false =>
    repeat (first|(with_reducible first|apply X1|apply X2|apply X3|apply X8|apply X9)|((with_reducible first|apply e_end|apply d_end);(simp;exact Red.rfl))|((first|((with_reducible apply O1);rfl)|((with_reducible apply O2);rfl)|((with_reducible apply P1);rfl));(simp (disch:=omega);exact Red.rfl);exact Red.rfl;(focus (first|(simp;done)|omega|(simp;omega))))|((with_reducible apply Z9);(simp (disch:=omega);exact Red.rfl))|((with_reducible apply Z6);(simp (disch:=omega);exact Red.rfl)))
    refine q_drop (.inr rfl) (by simp; exact Red.rfl) (by simp) ⟨rfl, 0, 0, 2, rfl, no (.inl rfl)⟩
  | true =>
    repeat (first|((first|((with_reducible apply P1);rfl)|((with_reducible apply P2);rfl));(simp (disch:=omega);exact Red.rfl);exact Red.rfl;(focus (first|(simp;done)|omega|(simp;omega))))|((with_reducible apply Z8);(simp (disch:=omega);exact Red.rfl)))
    (with_reducible apply d_call); (simp; exact Red.rfl); exact c_upto _ _; (focus (first | (simp; done) | (simp; omega)))
    repeat (first|((with_reducible apply P3);rfl;(simp (disch:=omega);exact Red.rfl);exact Red.rfl;(focus (first|(simp;done)|omega|(simp;omega))))|((with_reducible apply Z8);(simp (disch:=omega);exact Red.rfl))|((with_reducible apply P6);rfl;(simp (disch:=omega);exact Red.rfl);exact Red.rfl;(focus (first|(simp [pr];done)|(simp [pr];omega)))))
    (with_reducible apply d_call); (simp; exact Red.rfl); exact c_within1 _ _ _ _ _ _ _ h2 (by simp); (focus (first | (simp; done) | (simp; omega)))
    cases b2 with
    | false =>
      repeat (first|(with_reducible first|apply X1|apply X2|apply X3|apply X8|apply X9)|((with_reducible first|apply e_end|apply d_end);(simp;exact Red.rfl))|((first|((with_reducible apply O1);rfl)|((with_reducible apply O2);rfl)|((with_reducible apply P1);rfl));(simp (disch:=omega);exact Red.rfl);exact Red.rfl;(focus (first|(simp;done)|omega|(simp;omega))))|((with_reducible first|apply Z8|apply Z9);(simp (disch:=omega);exact Red.rfl)))
      refine q_drop (.inr rfl) (by simp; exact Red.rfl) (by simp) ⟨rfl, 0, 0, 2, rfl, no (.inr rfl)⟩
    | true =>
      have h1 := h1.1 rfl
      have h2 := h2.1 rfl
      obtain ⟨s, rfl⟩ : ∃ n : Nat, s = n := ⟨s.toNat, by omega⟩
      obtain ⟨h, rfl⟩ : ∃ n : Nat, h = n := ⟨h.toNat, by omega⟩
      have hs : s < c.bs.length := by omega
      have hh : h ≤ c.hs.length := by omega
      have cl := fun w G => c_before w (H ++ G) c p _ (hpa G) hc _ L (hpla G) hL s h hs hh (by omega)
      have clt := cl
      simp only [Cv.tv] at clt
      repeat (first|(with_reducible first|apply X1|apply X2|apply X5|apply X8)|((with_reducible first|apply e_end|apply d_end);(simp;exact Red.rfl))|((first|((with_reducible apply O1);rfl)|((with_reducible apply P1);rfl));(simp (disch:=omega);exact Red.rfl);exact Red.rfl;(focus (first|(simp;done)|omega|(simp;omega))))|((with_reducible apply Z8);(simp (disch:=omega);exact Red.rfl))|((with_reducible apply W3);(simp (disch:=omega);exact Red.rfl)))
      (with_reducible apply e_call); (simp; exact Red.rfl); exact kt _
      rintro _ _ ⟨rfl, rfl⟩
      repeat (first|(with_reducible first|apply X6|apply X8)|((with_reducible apply e_end);(simp;exact Red.rfl)))
      refine e_truths c p ?y1 ?y2 (by simp; exact Red.rfl) (by simp [tSc]) rfl ?ca ?cb ?cc ?cd ?ce ?cf ?cg ?ch
      case ca => simpa using hpa _
      case cb => simp [Cv.av]
      case cc =>
        simp only [roundT, List.zip_cons_cons, List.zip_nil_left, List.foldl_cons, List.foldl_nil, List.zip_nil_right, Cv.tv]
        repeat (first|(with_reducible first|apply X1|apply X2|apply X8)|((with_reducible apply e_end);(simp;exact Red.rfl))|((first|((with_reducible apply O1);rfl)|((with_reducible apply O2);rfl));(simp (disch:=omega);exact Red.rfl);exact Red.rfl;(focus (first|(simp;done)|omega|(simp;omega)))))
        refine q_begin (by simp [at_new]; exact Red.rfl) (by simp [set_new]; exact Red.rfl) ?_
        repeat (first|(with_reducible first|apply X2|apply X6)|((with_reducible apply O1);rfl;(simp (disch:=omega);exact Red.rfl);exact Red.rfl;(focus (first|(simp;done)|omega|(simp;omega)))))
        (with_reducible apply e_call); (simp; exact Red.rfl); exact clt true _
        rintro _ _ ⟨rfl, rfl⟩
        repeat (first|(with_reducible apply Y2)|((with_reducible apply e_end);(simp;exact Red.rfl))|((first|((with_reducible apply O1);rfl)|((with_reducible apply O2);rfl));(simp (disch:=omega);exact Red.rfl);exact Red.rfl;(focus (first|(simp;done)|omega|(simp;omega)))))
        exact q_end (by simp [at_new]; exact Red.rfl) (by simp [set_new]; exact Red.rfl) (.inl rfl) ⟨rfl, rfl⟩
      case cd => simpa using hpa _
      case ce => simp [Cv.av, at_new]
      case cf => simp [at_new]
      case cg =>
        simp only [roundT, List.zip_cons_cons, List.zip_nil_left, List.foldl_cons, List.foldl_nil, List.zip_nil_right, Cv.tv]
        repeat (first|(with_reducible first|apply X1|apply X2|apply X8)|((with_reducible apply e_end);(simp;exact Red.rfl))|((first|((with_reducible apply O1);rfl)|((with_reducible apply O2);rfl));(simp (disch:=omega);exact Red.rfl);exact Red.rfl;(focus (first|(simp;done)|omega|(simp;omega)))))
        refine q_begin (by simp [at_new]; exact Red.rfl) (by simp [set_new]; exact Red.rfl) ?_
        repeat (first|(with_reducible first|apply X2|apply X6)|((with_reducible apply O1);rfl;(simp (disch:=omega);exact Red.rfl);exact Red.rfl;(focus (first|(simp;done)|omega|(simp;omega)))))
        (with_reducible apply e_call); (simp; exact Red.rfl); exact clt false _
        rintro _ _ ⟨rfl, rfl⟩
        repeat (first|(with_reducible apply Y2)|((with_reducible apply e_end);(simp;exact Red.rfl))|((first|((with_reducible apply O1);rfl)|((with_reducible apply O2);rfl));(simp (disch:=omega);exact Red.rfl);exact Red.rfl;(focus (first|(simp;done)|omega|(simp;omega)))))
        exact q_end (by simp [at_new]; exact Red.rfl) (by simp [set_new]; exact Red.rfl) (.inl rfl) ⟨rfl, rfl⟩
      case ch =>
        refine range_end (by simp [at_new]; exact Red.rfl) (by simp [set_new]; exact Red.rfl) ?_
        repeat (first|(with_reducible first|apply X1|apply X2|apply X3|apply X8|apply Y2)|((with_reducible apply e_end);(simp;exact Red.rfl))|((first|((with_reducible apply O1);rfl)|((with_reducible apply O2);rfl));(simp (disch:=omega);exact Red.rfl);exact Red.rfl;(focus (first|(simp;done)|omega|(simp;omega)))))
        refine q_drop (.inr rfl) (by simp; exact Red.rfl) (by simp) ⟨rfl, _, _, 0, rfl, .inr (.inr ⟨hv, hc, ⟨rfl, hok⟩, ⟨⟨by omega, by omega⟩, by omega, by omega⟩, rfl, by simp, by simp⟩)⟩
end Go.Proofs
/- Ice: what is too thin, and whether a plan is safe, told. -/
namespace Go.Proofs
open Go.Abs
attribute [local simp] AOp.den AOpd.ev lk cellsOf rd_new rd_new0 rd_zero rd_succ wr_new wr_new0 wr_zero wr_succ splice fillA binA scal sliceCells List.length_append argsT AV.sc scL AObj.sc resV getAll AR.get AOp.slots opdSlots opdsSlots partSlots eqAt at_new0 at_new set_new0 set_new wrap64
set_option linter.unusedSimpArgs false
set_option linter.unusedVariables false
theorem c_iThinG (H : Heap) (l : List Str) (c : Cv) (p : Plc) (hp : CvAt H c p) (ht : TrAt H l p) (hn : (l.length : Int) < 1000000) (hn1 : (c.bs.length : Int) < 1000000) (hn2 : (c.hs.length : Int) < 1000000)
    (pl : AV) (n : Nat) (L : Nat → List Int) (hpl : PlAt H pl n L) (hL : ∀ k, k < n → ((L k).length : Int) < 1000000) (hn3 : (n : Int) < 1000000) :
    ACalls Try.prog F.ice_Thin [.agg (c.av p), pl] H (fun v h' => (∃ e : Int, plE l c n L e ∧ e ≠ 0 ∧ v = .tuple [.nilslice, .int .i64 e] ∧ h' = H) ∨
      (validL l ∧ c.ok l.length ∧ (n = c.hs.length ∧ okPl c L) ∧ v = .tuple [lsV H 2 (thP c (endT true c) (inP L) c.hs.length).length, .int .i64 0] ∧ h' = H ++ lsO (thP c (endT true c) (inP L) c.hs.length).length (pv (thP c (endT true c) (inP L) c.hs.length)))) := by
  have k0 := fun G => c_checkPlan (H ++ G) l c p (hp.app G) (ht.app G) hn hn1 hn2 pl n L (hpl.app G) hL hn3
  have kw := fun G => c_worst (H ++ G) c p (hp.app G)
  have hp1 := hp.t
  have hp2 := rd_lt hp.b
  have hp3 := rd_lt hp.h
  have hpa := fun G => hp.app G
  have hpla := fun G => hpl.app G
  obtain ⟨pid, poff, pex, rfl, hpid, hrow⟩ := hpl.get
  simp only [Cv.av] at *
  refine acalls_of ok_ice_Thin rfl fun hcl => ?_
  unfold ac_ice_Thin
  simp only [argsT, Nat.zero_add, Nat.reduceAdd]
  repeat (first|(with_reducible first|apply X1|apply X2|apply X8)|((with_reducible apply e_end);(simp;exact Red.rfl))|((with_reducible apply O1);rfl;(simp (disch:=omega);exact Red.rfl);exact Red.rfl;(focus (first|(simp;done)|omega|(simp;omega)))))
  (with_reducible apply e_call); (simp; exact Red.rfl); exact k0 _
  rintro _ _ ⟨rfl, e, rfl, hv⟩
  by_cases he : e = 0
  rotate_left
  · repeat (first|(with_reducible first|apply X1|apply X2|apply X3|apply X8|apply X9)|((with_reducible apply e_end);(simp;exact Red.rfl))|((with_reducible apply O1);rfl;(simp (disch:=omega) [he];exact Red.rfl);exact Red.rfl;(focus (first|(simp;done)|omega|(simp;omega))))|((with_reducible apply Z9);(simp (disch:=omega) [he];exact Red.rfl)))
    refine q_drop (.inr rfl) (by simp; exact Red.rfl) (by simp) (.inl ⟨e, hv, he, rfl, rfl⟩)
  subst he
  obtain ⟨hv, hc, ⟨rfl, hok⟩, _⟩ | h | h := hv
  rotate_left
  · exact absurd rfl h.2.2
  · exact absurd h.2.2.2 (by decide)
  have h12 := hv.1
  have hlen := hc.len
  have cl := fun G => c_thinPairs true (H ++ G) c p _ (hpa G) hc _ L (hpla G) hL (by omega)
  have hln := pv_length (thP c (endT true c) (inP L) c.hs.length)
  have hpp := pv_plain (thP c (endT true c) (inP L) c.hs.length)
  generalize thP c (endT true c) (inP L) c.hs.length = T at *
  simp only [Cv.tv] at *
  repeat (first|(with_reducible first|apply X1|apply X2|apply X5|apply X8)|((with_reducible apply e_end);(simp;exact Red.rfl))|((with_reducible apply O1);rfl;(simp (disch:=omega);exact Red.rfl);exact Red.rfl;(focus (first|(simp;done)|omega|(simp;omega))))|((with_reducible apply W3);(simp (disch:=omega);exact Red.rfl)))
  (with_reducible apply e_call); (simp; exact Red.rfl); exact kw _
  rintro _ _ ⟨rfl, rfl⟩
  repeat ((with_reducible apply O1);rfl;(simp (disch:=omega);exact Red.rfl);exact Red.rfl;(focus (first|(simp;done)|omega|(simp;omega))))
  (with_reducible apply e_call); (simp; exact Red.rfl); exact cl _
  rintro _ _ ⟨rfl, rfl⟩
  have hat := ls_at (sz := 2) (H ++ [.cells [.slice p.tid p.toff p.tn 9 p.tex, .slice p.bid p.boff c.bs.length 3 p.bex, .slice p.hid p.hoff c.hs.length 5 p.hex, .int .i64 c.w1, .int .i64 c.w2, .int .i64 c.y1, .int .i64 c.y2, .int .i64 c.rate, .int .i64 c.lim, .int .i64 c.base] true]) hln
  have hid : ∀ i, isId (lsV (H ++ [.cells [.slice p.tid p.toff p.tn 9 p.tex, .slice p.bid p.boff c.bs.length 3 p.bex, .slice p.hid p.hoff c.hs.length 5 p.hex, .int .i64 c.w1, .int .i64 c.w2, .int .i64 c.y1, .int .i64 c.y2, .int .i64 c.rate, .int .i64 c.lim, .int .i64 c.base] true]) 2 T.length) i → H.length ≤ i := fun i hi => by have := ls_id hi; simp at this; omega
  simp only [List.append_assoc, List.cons_append, List.nil_append] at hat
  repeat (first|(with_reducible first|apply X3|apply X8)|((with_reducible apply e_end);(simp;exact Red.rfl))|((with_reducible apply O1);rfl;(simp (disch:=omega);exact Red.rfl);exact Red.rfl;(focus (first|(simp;done)|omega|(simp;omega)))))
  exact q_post (v' := .tuple [lsV H 2 T.length, .int .i64 0]) (.inr rfl) (by simp; exact Red.rfl) (le_ls (fun x => .tuple [x, .int .i64 0]) (fun _ _ => by simp [AV.ren, renL]) (fun _ _ h => by simpa [AV.sc, scL] using h) hpp hat hid) (.inr ⟨hv, hc, by simp [hok], rfl, rfl⟩)

def safeF (c : Cv) (L : Nat → List Int) : Int := if thP c (endT false c) (inP L) c.hs.length ≠ [] then 0 else if thP c (endT true c) (inP L) c.hs.length ≠ [] then 1 else 2
end Go.Proofs
