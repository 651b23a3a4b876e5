import Derived.Test.YtdjneegacogklaaCodeSlideExamples
import Derived.Test.YtdjneegacogklaaA41
import Derived.KernelRfl
set_option linter.unusedSimpArgs false
set_option linter.unusedVariables false
open Go Go.Abs Go.Proofs
set_option maxRecDepth 100000
namespace Go.Proofs
theorem Try.run40 : isTrue ((goC Try.tab40 300).1 40 [] .nil 0) = true := by kernel_rfl
theorem Try.true40 (H : Heap) : ACalls Try.prog 40 [] H (fun v h => v = .bool true ∧ h = H) := goC_frame (Try.tabOK40) 300 Try.run40 rfl H
theorem Try.run5 : isTrue ((goC Try.tab5 300).1 5 [] .nil 0) = true := by kernel_rfl
theorem Try.true5 (H : Heap) : ACalls Try.prog 5 [] H (fun v h => v = .bool true ∧ h = H) := goC_frame (Try.tabOK5 Try.true40) 300 Try.run5 rfl H
end Go.Proofs
