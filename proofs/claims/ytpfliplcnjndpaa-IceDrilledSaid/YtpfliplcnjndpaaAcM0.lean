/- The code of functions of the program, as abstract code. -/
import Derived.Test.YtpfliplcnjndpaaAc0
import Derived.Test.YtpfliplcnjndpaaProg
import Derived.KernelRfl
set_option linter.unusedSimpArgs false
set_option linter.unusedVariables false
set_option maxRecDepth 100000
set_option maxHeartbeats 4000000
namespace Go.Proofs
open Go.Abs
abbrev F.track_Marks : FuncId := 114
end Go.Proofs
