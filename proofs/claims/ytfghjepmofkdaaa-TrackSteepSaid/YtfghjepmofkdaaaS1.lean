/- Whether sleds are valid. -/
import Derived.Test.YtfghjepmofkdaaaS0
import Derived.Test.YtfghjepmofkdaaaDD
import Derived.Test.YtfghjepmofkdaaaAcS2
import Derived.Test.YtfghjepmofkdaaaAcS1
import Derived.Test.YtfghjepmofkdaaaAcS0
namespace Go.Proofs
open Go.Abs
attribute [local simp] AOp.den AOpd.ev lk cellsOf rd_new rd_new0 rd_zero rd_succ wr_new wr_new0 wr_zero wr_succ splice fillA binA scal sliceCells List.length_append argsT AV.sc scL AObj.sc resV getAll AR.get AOp.slots opdSlots opdsSlots partSlots eqAt at_new0 at_new set_new0 set_new wrap64
set_option linter.unusedSimpArgs false
set_option linter.unusedVariables false
structure Lim where
  a : Int
  b : Int
  lo : Int
  hi : Int
def Lim.av (x : Lim) : List AV := [.int .i64 x.a, .int .i64 x.b, .int .i64 x.lo, .int .i64 x.hi]
theorem Lim.av_length (x : Lim) : x.av.length = 4 := rfl
def Lim.ok (x : Lim) : Prop := x.a ≤ x.b ∧ x.lo ≤ x.a ∧ x.b ≤ x.hi

def Sl.lims (s : Sl) : List Lim := [⟨s.s1, s.s2, 0, 200000⟩, ⟨s.r1, s.r2, 0, 100⟩, ⟨s.d1, s.d2, 0, 1000⟩, ⟨s.w1, s.w2, 50000, 800000⟩, ⟨s.t1, s.t2, -500, 500⟩]
end Go.Proofs
