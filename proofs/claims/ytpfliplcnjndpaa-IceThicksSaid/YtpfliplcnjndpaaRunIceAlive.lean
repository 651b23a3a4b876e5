import Derived.Test.YtpfliplcnjndpaaCodeIceAlive
import Derived.Test.YtpfliplcnjndpaaA41
import Derived.KernelRfl
set_option linter.unusedSimpArgs false
set_option linter.unusedVariables false
open Go Go.Abs Go.Proofs
set_option maxRecDepth 100000
namespace Go.Proofs
end Go.Proofs
