/- Ends of spans: tracks and sleds of which one number is left of each span. -/
import Derived.Test.YtfghjepmofkdaaaSC
namespace Go.Proofs
open Go.Abs
attribute [local simp] AOp.den AOpd.ev lk cellsOf rd_new rd_new0 rd_zero rd_succ wr_new wr_new0 wr_zero wr_succ splice fillA binA scal sliceCells List.length_append argsT AV.sc scL AObj.sc resV getAll AR.get AOp.slots opdSlots opdsSlots partSlots eqAt at_new0 at_new set_new0 set_new wrap64
set_option linter.unusedSimpArgs false
set_option linter.unusedVariables false
theorem c3_span (H : Heap) (a b : Int) : ACalls Try.prog F.law03_span [.int .i64 a, .int .i64 b] H (fun v h' => v = .agg [.int .i64 a, .int .i64 b] ∧ h' = H) := by
  refine acalls_of ok_law03_span rfl fun hcl => ?_
  unfold ac_law03_span
  simp only [argsT, Nat.zero_add, Nat.reduceAdd]
  repeat (first|(with_reducible first|apply X1|apply X2|apply X3|apply X8)|((with_reducible apply e_end);(simp;exact Red.rfl))|((first|((with_reducible apply O1);rfl)|((with_reducible apply O2);rfl));(simp (disch:=omega);exact Red.rfl);exact Red.rfl;(focus (first|(simp;done)|omega|(simp;omega)))))
  refine q_drop (.inr rfl) (by simp; exact Red.rfl) (by simp) ⟨rfl, rfl⟩

def lowS (x : Str) : Str := ⟨x.id, x.lHi, x.lHi, x.fLo, x.fLo, x.rHi, x.rHi, x.side, x.wall⟩
def highS (x : Str) : Str := ⟨x.id, x.lLo, x.lLo, x.fHi, x.fHi, x.rLo, x.rLo, x.side, x.wall⟩
def slowS (s : Sl) : Sl := ⟨s.c, s.s1, s.s1, s.r2, s.r2, s.d2, s.d2, s.w1, s.w1, s.t1, s.t1⟩
def fastS (s : Sl) : Sl := ⟨s.c, s.s2, s.s2, s.r1, s.r1, s.d1, s.d1, s.w2, s.w2, s.t2, s.t2⟩
/-- The list in which some stretches are done. -/
def doneS (g : Str → Str) (l : List Str) (i j : Nat) : Str := if j < i then g (strAt l j) else strAt l j

end Go.Proofs
