/- Several texts as one. -/
import Derived.Test.YtjagjbelmonpmaaDD
/- Contracts of spots. -/
namespace Go.Proofs
open Go.Abs
attribute [local simp] AOp.den AOpd.ev lk cellsOf rd_new rd_new0 rd_zero rd_succ wr_new wr_new0 wr_zero wr_succ splice fillA binA scal sliceCells List.length_append argsT AV.sc scL AObj.sc resV getAll AR.get AOp.slots opdSlots opdsSlots partSlots eqAt at_new0 at_new set_new0 set_new wrap64
set_option linter.unusedSimpArgs false
set_option linter.unusedVariables false
def spotOK (l : List Str) (k lo hi : Int) : Prop := (0 ≤ k ∧ k < l.length) ∧ lo ≤ hi ∧ 0 ≤ lo ∧ hi < (strAt l k.toNat).lLo

def wayLo (l : List Str) (a b : Nat) : Int := if b < a then 0 - sumF (kHi kLong l) b (a - b) else sumF (kLo kLong l) a (b - a)
def wayHi (l : List Str) (a b : Nat) : Int := if b < a then 0 - sumF (kLo kLong l) b (a - b) else sumF (kHi kLong l) a (b - a)
end Go.Proofs
/- Contracts: where a place may be. -/
namespace Go.Proofs
open Go.Abs
attribute [local simp] AOp.den AOpd.ev lk cellsOf rd_new rd_new0 rd_zero rd_succ wr_new wr_new0 wr_zero wr_succ splice fillA binA scal sliceCells List.length_append argsT AV.sc scL AObj.sc resV getAll AR.get AOp.slots opdSlots opdsSlots partSlots eqAt at_new0 at_new set_new0 set_new wrap64
set_option linter.unusedSimpArgs false
set_option linter.unusedVariables false
def avK (xs : List Nat) : List AV := xs.map fun k : Nat => .int .i64 (k : Int)
def pV (n : Nat) (xs : List Nat) : AV := if xs = [] then .nilslice else .slice n 0 xs.length 1 false
def pH (H : Heap) (xs : List Nat) : Heap := if xs = [] then H else H ++ [.cells (avK xs) true]
def selF (sel : Nat → Bool) (n : Nat) : List Nat := (List.range n).filter sel
def plSel (l : List Str) (at_ : Int) (i : Nat) : Bool := decide (mLo l i ≤ at_ ∧ (i = l.length ∨ at_ < mHi l (i + 1)))
def plL_ (l : List Str) (at_ : Int) : List Nat := selF (plSel l at_) (l.length + 1)
end Go.Proofs
/- Contracts of the reference: drops and marks. -/
namespace Go.Proofs
open Go.Abs
attribute [local simp] AOp.den AOpd.ev lk cellsOf rd_new rd_new0 rd_zero rd_succ wr_new wr_new0 wr_zero wr_succ splice fillA binA scal sliceCells List.length_append argsT AV.sc scL AObj.sc resV getAll AR.get AOp.slots opdSlots opdsSlots partSlots eqAt at_new0 at_new set_new0 set_new wrap64
set_option linter.unusedSimpArgs false
set_option linter.unusedVariables false
/-- What is told of a drop. -/
def dOK (l : List Str) (a b : Int) : Prop := 0 ≤ a ∧ a ≤ b ∧ b ≤ l.length
end Go.Proofs
