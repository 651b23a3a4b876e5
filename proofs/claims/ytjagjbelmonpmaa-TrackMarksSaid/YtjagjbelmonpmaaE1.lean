/- Contracts of spots. -/
import Derived.Test.YtjagjbelmonpmaaDD
namespace Go.Proofs
open Go.Abs
attribute [local simp] AOp.den AOpd.ev lk cellsOf rd_new rd_new0 rd_zero rd_succ wr_new wr_new0 wr_zero wr_succ splice fillA binA scal sliceCells List.length_append argsT AV.sc scL AObj.sc resV getAll AR.get AOp.slots opdSlots opdsSlots partSlots eqAt at_new0 at_new set_new0 set_new wrap64
set_option linter.unusedSimpArgs false
set_option linter.unusedVariables false
def spotOK (l : List Str) (k lo hi : Int) : Prop := (0 ≤ k ∧ k < l.length) ∧ lo ≤ hi ∧ 0 ≤ lo ∧ hi < (strAt l k.toNat).lLo

def wayLo (l : List Str) (a b : Nat) : Int := if b < a then 0 - sumF (kHi kLong l) b (a - b) else sumF (kLo kLong l) a (b - a)
def wayHi (l : List Str) (a b : Nat) : Int := if b < a then 0 - sumF (kLo kLong l) b (a - b) else sumF (kHi kLong l) a (b - a)
end Go.Proofs
