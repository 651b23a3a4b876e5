/- The code of functions of the program, as abstract code. -/
import Derived.Test.YtjagjbelmonpmaaAc0
import Derived.Test.YtjagjbelmonpmaaProg
import Derived.Test.YtjagjbelmonpmaaAcB0
import Derived.KernelRfl
set_option linter.unusedSimpArgs false
set_option linter.unusedVariables false
set_option maxRecDepth 100000
set_option maxHeartbeats 4000000
namespace Go.Proofs
open Go.Abs
end Go.Proofs
