import Derived.Test.YtdjneegacogklaaCodeSlideAlive
import Derived.Test.YtdjneegacogklaaA41
import Derived.KernelRfl
set_option linter.unusedSimpArgs false
set_option linter.unusedVariables false
open Go Go.Abs Go.Proofs
set_option maxRecDepth 100000
namespace Go.Proofs
theorem Try.run40 : isTrue ((goC Try.tab40 300).1 40 [] .nil 0) = true := by kernel_rfl
theorem Try.true40 (H : Heap) : ACalls Try.prog 40 [] H (fun v h => v = .bool true ∧ h = H) := goC_frame (Try.tabOK40) 300 Try.run40 rfl H
end Go.Proofs
