/- The abstract machine, run for the kernel: operations leave what they leave. -/
import Derived.Test.YteinjjoonmdakaaA27
set_option linter.unusedSimpArgs false
set_option linter.unusedVariables false
namespace Go.Abs
open Go.RowKit
section

def FxS (o : AOp) (t : List (Nat × AV)) (tr : Tr) (s : Nat) (K : Kt) (r : RT) : Prop := ∃ v tr' s', K v tr' s' = some r ∧ o.fx (AOpd.ev t) (ab tr s) = some (v, ab tr' s')

end
end Go.Abs
