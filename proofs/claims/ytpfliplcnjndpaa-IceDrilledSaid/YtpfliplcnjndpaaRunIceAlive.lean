import Derived.Test.YtpfliplcnjndpaaCodeIceAlive
import Derived.Test.YtpfliplcnjndpaaA41
import Derived.KernelRfl
set_option linter.unusedSimpArgs false
set_option linter.unusedVariables false
open Go Go.Abs Go.Proofs
set_option maxRecDepth 100000
namespace Go.Proofs
theorem Try.run33 : isTrue ((goC Try.tab33 300).1 33 [] .nil 0) = true := by kernel_rfl
theorem Try.true33 (H : Heap) : ACalls Try.prog 33 [] H (fun v h => v = .bool true ∧ h = H) := goC_frame (Try.tabOK33) 300 Try.run33 rfl H
end Go.Proofs
