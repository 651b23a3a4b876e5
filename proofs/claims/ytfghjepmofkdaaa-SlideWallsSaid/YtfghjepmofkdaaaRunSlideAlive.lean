import Derived.Test.YtfghjepmofkdaaaCodeSlideAlive
import Derived.Test.YtfghjepmofkdaaaA41
import Derived.KernelRfl
set_option linter.unusedSimpArgs false
set_option linter.unusedVariables false
open Go Go.Abs Go.Proofs
set_option maxRecDepth 100000
namespace Go.Proofs
theorem Try.run31 : isTrue ((goC Try.tab31 300).1 31 [] .nil 0) = true := by kernel_rfl
theorem Try.true31 (H : Heap) : ACalls Try.prog 31 [] H (fun v h => v = .bool true ∧ h = H) := goC_frame (Try.tabOK31) 300 Try.run31 rfl H
end Go.Proofs
