import Derived.Test.YtfghjepmofkdaaaCodeTrackAlive
import Derived.Test.YtfghjepmofkdaaaA41
import Derived.KernelRfl
set_option linter.unusedSimpArgs false
set_option linter.unusedVariables false
open Go Go.Abs Go.Proofs
set_option maxRecDepth 100000
namespace Go.Proofs
theorem Try.run14 : isTrue ((goC Try.tab14 300).1 14 [] .nil 0) = true := by kernel_rfl
theorem Try.true14 (H : Heap) : ACalls Try.prog 14 [] H (fun v h => v = .bool true ∧ h = H) := goC_frame (Try.tabOK14) 300 Try.run14 rfl H
