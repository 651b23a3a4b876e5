/- Several texts as one. -/
import Derived.Test.YtfghjepmofkdaaaSA
/- Truths that choices tell. -/
namespace Go.Proofs
open Go.Abs
attribute [local simp] AOp.den AOpd.ev lk cellsOf rd_new rd_new0 rd_zero rd_succ wr_new wr_new0 wr_zero wr_succ splice fillA binA scal sliceCells List.length_append argsT AV.sc scL AObj.sc resV getAll AR.get AOp.slots opdSlots opdsSlots partSlots eqAt at_new0 at_new set_new0 set_new wrap64
set_option linter.unusedSimpArgs false
set_option linter.unusedVariables false
/-- A number of a span by a choice; often one of its ends. -/
def someG (lo hi b : Int) : Int := if b % 5 = 0 then lo else if b % 5 = 1 then hi else lo + b / 5 % (hi - lo + 1)
/-- What choices tell of a stretch, and of the sled in it. -/
def cL (us : List Int) (l : List Str) (j : Nat) : Int := someG (strAt l j).lLo (strAt l j).lHi (chooseF us (3 + 5 * (j : Int)))
def cF (us : List Int) (l : List Str) (j : Nat) : Int := someG (strAt l j).fLo (strAt l j).fHi (chooseF us (3 + 5 * (j : Int) + 1))
def cR (us : List Int) (s : Sl) (j : Nat) : Int := someG s.r1 s.r2 (chooseF us (3 + 5 * (j : Int) + 2))
def cRad (us : List Int) (l : List Str) (j : Nat) : Int := someG (strAt l j).rLo (strAt l j).rHi (chooseF us (3 + 5 * (j : Int) + 3))
def cT (us : List Int) (s : Sl) (j : Nat) : Int := someG s.t1 s.t2 (chooseF us (3 + 5 * (j : Int) + 4))
def cSt (us : List Int) (s : Sl) : Int := someG s.s1 s.s2 (chooseF us 0)
def cD (us : List Int) (s : Sl) : Int := someG s.d1 s.d2 (chooseF us 1)
def cW (us : List Int) (s : Sl) : Int := someG s.w1 s.w2 (chooseF us 2)
/-- The heads, and the heights, of the truth. -/
def cH (us : List Int) (s : Sl) (l : List Str) : Nat → Int := hdG (cSt us s) (cD us s) (cW us s) (cR us s) (cL us l) (cF us l)
def cU (us : List Int) (s : Sl) (l : List Str) (j : Nat) : Int := if (strAt l j).side = 0 then 0 else htF (wiF (cH us s l) j) (cRad us l j) (cT us s j)

end Go.Proofs
/- What is told holds every truth. -/
namespace Go.Proofs
open Go.Abs
attribute [local simp] AOp.den AOpd.ev lk cellsOf rd_new rd_new0 rd_zero rd_succ wr_new wr_new0 wr_zero wr_succ splice fillA binA scal sliceCells List.length_append argsT AV.sc scL AObj.sc resV getAll AR.get AOp.slots opdSlots opdsSlots partSlots eqAt at_new0 at_new set_new0 set_new wrap64
set_option linter.unusedSimpArgs false
set_option linter.unusedVariables false
end Go.Proofs
