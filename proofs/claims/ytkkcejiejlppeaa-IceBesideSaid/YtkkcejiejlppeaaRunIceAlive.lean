import Derived.Test.YtkkcejiejlppeaaCodeIceAlive
import Derived.Test.YtkkcejiejlppeaaA41
import Derived.KernelRfl
set_option linter.unusedSimpArgs false
set_option linter.unusedVariables false
open Go Go.Abs Go.Proofs
set_option maxRecDepth 100000
namespace Go.Proofs
theorem Try.run6 : isTrue ((goC Try.tab6 300).1 6 [] .nil 0) = true := by kernel_rfl
theorem Try.true6 (H : Heap) : ACalls Try.prog 6 [] H (fun v h => v = .bool true ∧ h = H) := goC_frame (Try.tabOK6) 300 Try.run6 rfl H
end Go.Proofs
