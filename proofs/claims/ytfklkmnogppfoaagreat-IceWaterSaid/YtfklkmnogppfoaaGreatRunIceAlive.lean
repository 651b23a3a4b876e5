import Derived.Test.YtfklkmnogppfoaaGreatCodeIceAlive
import Derived.Test.YtfklkmnogppfoaaGreatA41
import Derived.KernelRfl
set_option linter.unusedSimpArgs false
set_option linter.unusedVariables false
open Go Go.Abs Go.Proofs
set_option maxRecDepth 100000
namespace Go.Proofs
theorem Tryz.run4 : isTrue ((goC Tryz.tab4 300).1 4 [] .nil 0) = true := by kernel_rfl
theorem Tryz.true4 (H : Heap) : ACalls Tryz.prog 4 [] H (fun v h => v = .bool true ∧ h = H) := goC_frame (Tryz.tabOK4) 300 Tryz.run4 rfl H
end Go.Proofs
