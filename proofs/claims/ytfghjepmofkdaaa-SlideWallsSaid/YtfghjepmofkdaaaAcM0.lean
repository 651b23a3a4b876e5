/- The code of functions of the program, as abstract code. -/
import Derived.Test.YtfghjepmofkdaaaAc0
import Derived.Test.YtfghjepmofkdaaaProg
import Derived.KernelRfl
set_option linter.unusedSimpArgs false
set_option linter.unusedVariables false
set_option maxRecDepth 100000
set_option maxHeartbeats 4000000
namespace Go.Proofs
open Go.Abs
abbrev F.track_Marks : FuncId := 60
end Go.Proofs
