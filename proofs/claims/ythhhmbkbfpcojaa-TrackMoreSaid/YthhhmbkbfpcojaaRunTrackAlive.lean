import Derived.Test.YthhhmbkbfpcojaaCodeTrackAlive
import Derived.Test.YthhhmbkbfpcojaaA41
import Derived.KernelRfl
set_option linter.unusedSimpArgs false
set_option linter.unusedVariables false
open Go Go.Abs Go.Proofs
set_option maxRecDepth 100000
namespace Go.Proofs
theorem Try.run15 : isTrue ((goC Try.tab15 300).1 15 [] .nil 0) = true := by kernel_rfl
theorem Try.true15 (H : Heap) : ACalls Try.prog 15 [] H (fun v h => v = .bool true ∧ h = H) := goC_frame (Try.tabOK15) 300 Try.run15 rfl H
end Go.Proofs
