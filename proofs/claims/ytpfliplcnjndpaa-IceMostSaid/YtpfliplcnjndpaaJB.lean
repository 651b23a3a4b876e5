/- Several texts as one. -/
import Derived.Test.YtpfliplcnjndpaaJA
/- Ice: the two truths at the ends, and what is told of them. -/
namespace Go.Proofs
open Go.Abs
attribute [local simp] AOp.den AOpd.ev lk cellsOf rd_new rd_new0 rd_zero rd_succ wr_new wr_new0 wr_zero wr_succ splice fillA binA scal sliceCells List.length_append argsT AV.sc scL AObj.sc resV getAll AR.get AOp.slots opdSlots opdsSlots partSlots eqAt at_new0 at_new set_new0 set_new wrap64
set_option linter.unusedSimpArgs false
set_option linter.unusedVariables false
theorem c_worst (H : Heap) (c : Cv) (p : Plc) (hp : CvAt H c p) : ACalls Try.prog F.ice_coat_worst [.agg (c.av p)] H (fun v h' => v = .agg (c.tv p true) ∧ h' = H) := by
  have hp1 := hp.t
  have hp2 := rd_lt hp.b
  have hp3 := rd_lt hp.h
  simp only [Cv.av, Cv.tv, mdF, tnF, if_true]
  refine acalls_of ok_ice_coat_worst rfl fun hcl => ?_
  unfold ac_ice_coat_worst
  simp only [argsT, Nat.zero_add, Nat.reduceAdd]
  repeat (first|(with_reducible first|apply X1|apply X2|apply X3|apply X8)|((with_reducible apply e_end);(simp;exact Red.rfl))|((first|((with_reducible apply O1);rfl)|((with_reducible apply O2);rfl));(simp (disch:=omega);exact Red.rfl);exact Red.rfl;(focus (first|(simp;done)|omega|(simp;omega)))))
  refine q_drop (.inr rfl) (by simp; exact Red.rfl) (by simp; omega) ⟨rfl, rfl⟩
/-- An answer of Check, or of checkPlan, that is an error. -/
def lossE (l : List Str) (c : Cv) (s h : Int) (lo hi e : Int) : Prop :=
  (¬ (validL l ∧ c.ok l.length) ∧ chkE l c e ∧ e ≠ 0 ∧ lo = 0 ∧ hi = 0) ∨ (validL l ∧ c.ok l.length ∧ ¬ ((0 ≤ s ∧ s < c.bs.length) ∧ 0 ≤ h ∧ h < c.hs.length) ∧ e = 2 ∧ lo = 0 ∧ hi = 0) ∨
  (validL l ∧ c.ok l.length ∧ ((0 ≤ s ∧ s < c.bs.length) ∧ 0 ≤ h ∧ h < c.hs.length) ∧ e = 0 ∧ lo = lossF c (endT false c) s.toNat h.toNat ∧ hi = lossF c (endT true c) s.toNat h.toNat)
end Go.Proofs
/- Ice: how thick it is, told. -/
namespace Go.Proofs
open Go.Abs
attribute [local simp] AOp.den AOpd.ev lk cellsOf rd_new rd_new0 rd_zero rd_succ wr_new wr_new0 wr_zero wr_succ splice fillA binA scal sliceCells List.length_append argsT AV.sc scL AObj.sc resV getAll AR.get AOp.slots opdSlots opdsSlots partSlots eqAt at_new0 at_new set_new0 set_new wrap64
set_option linter.unusedSimpArgs false
set_option linter.unusedVariables false
def thickE (l : List Str) (c : Cv) (n : Nat) (L : Nat → List Int) (s h : Int) (lo hi e : Int) : Prop :=
  (plE l c n L e ∧ e ≠ 0 ∧ lo = 0 ∧ hi = 0) ∨ (validL l ∧ c.ok l.length ∧ (n = c.hs.length ∧ okPl c L) ∧ ¬ ((0 ≤ s ∧ s < c.bs.length) ∧ 0 ≤ h ∧ h ≤ c.hs.length) ∧ e = 2 ∧ lo = 0 ∧ hi = 0) ∨
  (validL l ∧ c.ok l.length ∧ (n = c.hs.length ∧ okPl c L) ∧ ((0 ≤ s ∧ s < c.bs.length) ∧ 0 ≤ h ∧ h ≤ c.hs.length) ∧ e = 0 ∧ lo = befF c (endT true c) (inP L) s.toNat h.toNat ∧ hi = befF c (endT false c) (inP L) s.toNat h.toNat)
end Go.Proofs
/- Ice: what is too thin, and whether a plan is safe, told. -/
namespace Go.Proofs
open Go.Abs
attribute [local simp] AOp.den AOpd.ev lk cellsOf rd_new rd_new0 rd_zero rd_succ wr_new wr_new0 wr_zero wr_succ splice fillA binA scal sliceCells List.length_append argsT AV.sc scL AObj.sc resV getAll AR.get AOp.slots opdSlots opdsSlots partSlots eqAt at_new0 at_new set_new0 set_new wrap64
set_option linter.unusedSimpArgs false
set_option linter.unusedVariables false
theorem ls_len {ev : AOpd → AV} {x : AOpd} {H0 : Heap} {sz n : Nat} (hx : ev x = lsV H0 sz n) (h : Heap) : (AOp.len x).den ev h = .ok True (.int .i64 n) h := by
  unfold lsV at hx
  split at hx <;> simp [AOp.den, hx]
  omega
theorem c_iThinG (H : Heap) (l : List Str) (c : Cv) (p : Plc) (hp : CvAt H c p) (ht : TrAt H l p) (hn : (l.length : Int) < 1000000) (hn1 : (c.bs.length : Int) < 1000000) (hn2 : (c.hs.length : Int) < 1000000)
    (pl : AV) (n : Nat) (L : Nat → List Int) (hpl : PlAt H pl n L) (hL : ∀ k, k < n → ((L k).length : Int) < 1000000) (hn3 : (n : Int) < 1000000) :
    ACalls Try.prog F.ice_Thin [.agg (c.av p), pl] H (fun v h' => (∃ e : Int, plE l c n L e ∧ e ≠ 0 ∧ v = .tuple [.nilslice, .int .i64 e] ∧ h' = H) ∨
      (validL l ∧ c.ok l.length ∧ (n = c.hs.length ∧ okPl c L) ∧ v = .tuple [lsV H 2 (thP c (endT true c) (inP L) c.hs.length).length, .int .i64 0] ∧ h' = H ++ lsO (thP c (endT true c) (inP L) c.hs.length).length (pv (thP c (endT true c) (inP L) c.hs.length)))) := by
  have k0 := fun G => c_checkPlan (H ++ G) l c p (hp.app G) (ht.app G) hn hn1 hn2 pl n L (hpl.app G) hL hn3
  have kw := fun G => c_worst (H ++ G) c p (hp.app G)
  have hp1 := hp.t
  have hp2 := rd_lt hp.b
  have hp3 := rd_lt hp.h
  have hpa := fun G => hp.app G
  have hpla := fun G => hpl.app G
  obtain ⟨pid, poff, pex, rfl, hpid, hrow⟩ := hpl.get
  simp only [Cv.av] at *
  refine acalls_of ok_ice_Thin rfl fun hcl => ?_
  unfold ac_ice_Thin
  simp only [argsT, Nat.zero_add, Nat.reduceAdd]
  repeat (first|(with_reducible first|apply X1|apply X2|apply X8)|((with_reducible apply e_end);(simp;exact Red.rfl))|((with_reducible apply O1);rfl;(simp (disch:=omega);exact Red.rfl);exact Red.rfl;(focus (first|(simp;done)|omega|(simp;omega)))))
  (with_reducible apply e_call); (simp; exact Red.rfl); exact k0 _
  rintro _ _ ⟨rfl, e, rfl, hv⟩
  by_cases he : e = 0
  rotate_left
  · repeat (first|(with_reducible first|apply X1|apply X2|apply X3|apply X8|apply X9)|((with_reducible apply e_end);(simp;exact Red.rfl))|((with_reducible apply O1);rfl;(simp (disch:=omega) [he];exact Red.rfl);exact Red.rfl;(focus (first|(simp;done)|omega|(simp;omega))))|((with_reducible apply Z9);(simp (disch:=omega) [he];exact Red.rfl)))
    refine q_drop (.inr rfl) (by simp; exact Red.rfl) (by simp) (.inl ⟨e, hv, he, rfl, rfl⟩)
  subst he
  obtain ⟨hv, hc, ⟨rfl, hok⟩, _⟩ | h | h := hv
  rotate_left
  · exact absurd rfl h.2.2
  · exact absurd h.2.2.2 (by decide)
  have h12 := hv.1
  have hlen := hc.len
  have cl := fun G => c_thinPairs true (H ++ G) c p _ (hpa G) hc _ L (hpla G) hL (by omega)
  have hln := pv_length (thP c (endT true c) (inP L) c.hs.length)
  have hpp := pv_plain (thP c (endT true c) (inP L) c.hs.length)
  generalize thP c (endT true c) (inP L) c.hs.length = T at *
  simp only [Cv.tv] at *
  repeat (first|(with_reducible first|apply X1|apply X2|apply X5|apply X8)|((with_reducible apply e_end);(simp;exact Red.rfl))|((with_reducible apply O1);rfl;(simp (disch:=omega);exact Red.rfl);exact Red.rfl;(focus (first|(simp;done)|omega|(simp;omega))))|((with_reducible apply W3);(simp (disch:=omega);exact Red.rfl)))
  (with_reducible apply e_call); (simp; exact Red.rfl); exact kw _
  rintro _ _ ⟨rfl, rfl⟩
  repeat ((with_reducible apply O1);rfl;(simp (disch:=omega);exact Red.rfl);exact Red.rfl;(focus (first|(simp;done)|omega|(simp;omega))))
  (with_reducible apply e_call); (simp; exact Red.rfl); exact cl _
  rintro _ _ ⟨rfl, rfl⟩
  have hat := ls_at (sz := 2) (H ++ [.cells [.slice p.tid p.toff p.tn 9 p.tex, .slice p.bid p.boff c.bs.length 3 p.bex, .slice p.hid p.hoff c.hs.length 5 p.hex, .int .i64 c.w1, .int .i64 c.w2, .int .i64 c.y1, .int .i64 c.y2, .int .i64 c.rate, .int .i64 c.lim, .int .i64 c.base] true]) hln
  have hid : ∀ i, isId (lsV (H ++ [.cells [.slice p.tid p.toff p.tn 9 p.tex, .slice p.bid p.boff c.bs.length 3 p.bex, .slice p.hid p.hoff c.hs.length 5 p.hex, .int .i64 c.w1, .int .i64 c.w2, .int .i64 c.y1, .int .i64 c.y2, .int .i64 c.rate, .int .i64 c.lim, .int .i64 c.base] true]) 2 T.length) i → H.length ≤ i := fun i hi => by have := ls_id hi; simp at this; omega
  simp only [List.append_assoc, List.cons_append, List.nil_append] at hat
  repeat (first|(with_reducible first|apply X3|apply X8)|((with_reducible apply e_end);(simp;exact Red.rfl))|((with_reducible apply O1);rfl;(simp (disch:=omega);exact Red.rfl);exact Red.rfl;(focus (first|(simp;done)|omega|(simp;omega)))))
  exact q_post (v' := .tuple [lsV H 2 T.length, .int .i64 0]) (.inr rfl) (by simp; exact Red.rfl) (le_ls (fun x => .tuple [x, .int .i64 0]) (fun _ _ => by simp [AV.ren, renL]) (fun _ _ h => by simpa [AV.sc, scL] using h) hpp hat hid) (.inr ⟨hv, hc, by simp [hok], rfl, rfl⟩)

def safeF (c : Cv) (L : Nat → List Int) : Int := if thP c (endT false c) (inP L) c.hs.length ≠ [] then 0 else if thP c (endT true c) (inP L) c.hs.length ≠ [] then 1 else 2
end Go.Proofs
