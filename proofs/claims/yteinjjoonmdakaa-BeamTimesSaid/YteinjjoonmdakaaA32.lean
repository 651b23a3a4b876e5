/- The abstract machine, run for the kernel: the same operations. -/
import Derived.Test.YteinjjoonmdakaaA31
set_option linter.unusedSimpArgs false
set_option linter.unusedVariables false
namespace Go.Abs
open Go.RowKit
section

end
end Go.Abs
