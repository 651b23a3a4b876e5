import Derived.Test.YtfghjepmofkdaaaCodeIceExamples
import Derived.Test.YtfghjepmofkdaaaA41
import Derived.KernelRfl
set_option linter.unusedSimpArgs false
set_option linter.unusedVariables false
open Go Go.Abs Go.Proofs
set_option maxRecDepth 100000
namespace Go.Proofs
theorem Try.run22 : isTrue ((goC Try.tab22 300).1 22 [] .nil 0) = true := by kernel_rfl
theorem Try.true22 (H : Heap) : ACalls Try.prog 22 [] H (fun v h => v = .bool true ∧ h = H) := goC_frame (Try.tabOK22) 300 Try.run22 rfl H
theorem Try.run4 : isTrue ((goC Try.tab4 300).1 4 [] .nil 0) = true := by kernel_rfl
theorem Try.true4 (H : Heap) : ACalls Try.prog 4 [] H (fun v h => v = .bool true ∧ h = H) := goC_frame (Try.tabOK4 Try.true22) 300 Try.run4 rfl H
end Go.Proofs
