import Derived.Test.YtjagjbelmonpmaaCodeTrackAlive
import Derived.Test.YtjagjbelmonpmaaA41
import Derived.KernelRfl
set_option linter.unusedSimpArgs false
set_option linter.unusedVariables false
open Go Go.Abs Go.Proofs
set_option maxRecDepth 100000
namespace Go.Proofs
theorem Try.run35 : isTrue ((goC Try.tab35 300).1 35 [] .nil 0) = true := by kernel_rfl
theorem Try.true35 (H : Heap) : ACalls Try.prog 35 [] H (fun v h => v = .bool true ∧ h = H) := goC_frame (Try.tabOK35) 300 Try.run35 rfl H
