/- Several texts as one. -/
import Derived.Test.YtdjneegacogklaaSC
import Derived.Test.YtdjneegacogklaaRunSlideAlive
/- Ends of spans: tracks and sleds of which one number is left of each span. -/
namespace Go.Proofs
open Go.Abs
attribute [local simp] AOp.den AOpd.ev lk cellsOf rd_new rd_new0 rd_zero rd_succ wr_new wr_new0 wr_zero wr_succ splice fillA binA scal sliceCells List.length_append argsT AV.sc scL AObj.sc resV getAll AR.get AOp.slots opdSlots opdsSlots partSlots eqAt at_new0 at_new set_new0 set_new wrap64
set_option linter.unusedSimpArgs false
set_option linter.unusedVariables false
theorem c_Twin (H : Heap) (l : List Str) (id off : Nat) (ex : Bool) (hs : rd H id off (l.length * 9) = some (l.flatMap Str.av)) (hn : l.length ≤ 1000) :
    ACalls Try.prog F.ref01_Twin [.agg [.slice id off l.length 9 ex]] H (fun v h' => v = .agg [.slice H.length 0 l.length 9 false] ∧ h' = H ++ [.cells (l.flatMap Str.av) true]) := by
  refine acalls_of ok_ref01_Twin rfl fun hcl => ?_
  unfold ac_ref01_Twin
  simp only [argsT, Nat.zero_add, Nat.reduceAdd]
  have hid := rd_lt hs
  have pl := (plain_str l).plain l.length
  rw [flat_eq] at hs ⊢
  repeat (first|(with_reducible first|apply X1|apply X2|apply X3|apply X8)|((with_reducible apply e_end);(simp;exact Red.rfl))|((first|((with_reducible apply O1);rfl)|((with_reducible apply O2);rfl));(simp (disch:=omega) [rd_old _ hid, hs, pl.scal];exact Red.rfl);exact Red.rfl;(focus (first|(simp;done)|omega|(simp;omega)))))
  exact q_post (v' := .agg [.slice H.length 0 l.length 9 false]) (.inr rfl) (by simp; exact Red.rfl) (le_plain [3] _ (by simp) rfl (by simp; exact pl.o _) (by simp [sh, AV.ren, renL])) ⟨rfl, rfl⟩

def lowS (x : Str) : Str := ⟨x.id, x.lHi, x.lHi, x.fLo, x.fLo, x.rHi, x.rHi, x.side, x.wall⟩
def highS (x : Str) : Str := ⟨x.id, x.lLo, x.lLo, x.fHi, x.fHi, x.rLo, x.rLo, x.side, x.wall⟩
def slowS (s : Sl) : Sl := ⟨s.c, s.s1, s.s1, s.r2, s.r2, s.d2, s.d2, s.w1, s.w1, s.t1, s.t1⟩
def fastS (s : Sl) : Sl := ⟨s.c, s.s2, s.s2, s.r1, s.r1, s.d1, s.d1, s.w2, s.w2, s.t2, s.t2⟩
/-- The list in which some stretches are done. -/
def doneS (g : Str → Str) (l : List Str) (i j : Nat) : Str := if j < i then g (strAt l j) else strAt l j

end Go.Proofs
/- SlideEnds, the law's contract. -/
namespace Go.Proofs
open Go.Abs
attribute [local simp] AOp.den AOpd.ev lk cellsOf rd_new rd_new0 rd_zero rd_succ wr_new wr_new0 wr_zero wr_succ splice fillA binA scal sliceCells List.length_append argsT AV.sc scL AObj.sc resV getAll AR.get AOp.slots opdSlots opdsSlots partSlots eqAt at_new0 at_new set_new0 set_new wrap64
set_option linter.unusedSimpArgs false
set_option linter.unusedVariables false
theorem hdG_congr {st d w : Int} {r r' L L' f f' : Nat → Int} {n : Nat} (hr : ∀ j, j < n → r j = r' j) (hL : ∀ j, j < n → L j = L' j) (hf : ∀ j, j < n → f j = f' j) : ∀ i, i ≤ n → hdG st d w r L f i = hdG st d w r' L' f' i
  | 0, _ => rfl
  | i + 1, hi => by simp only [hdG]; rw [hdG_congr hr hL hf i (by omega), hr i (by omega), hL i (by omega), hf i (by omega)]
def lowL (l : List Str) : List Str := listS (fun j => lowS (strAt l j)) l.length
def highL (l : List Str) : List Str := listS (fun j => highS (strAt l j)) l.length
end Go.Proofs
