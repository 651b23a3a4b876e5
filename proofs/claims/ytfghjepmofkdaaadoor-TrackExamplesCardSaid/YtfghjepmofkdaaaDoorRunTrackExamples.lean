import Derived.Test.YtfghjepmofkdaaaDoorCodeTrackExamples
import Derived.Test.YtfghjepmofkdaaaDoorA41
import Derived.KernelRfl
set_option linter.unusedSimpArgs false
set_option linter.unusedVariables false
open Go Go.Abs Go.Proofs
set_option maxRecDepth 100000
namespace Go.Proofs
theorem Tryd.run6 : isTrue ((goC Tryd.tab6 300).1 6 [] .nil 0) = true := by kernel_rfl
theorem Tryd.true6 (H : Heap) : ACalls Tryd.prog 6 [] H (fun v h => v = .bool true ∧ h = H) := goC_frame (Tryd.tabOK6) 300 Tryd.run6 rfl H
theorem Tryd.run3 : isTrue ((goC Tryd.tab3 300).1 3 [] .nil 0) = true := by kernel_rfl
theorem Tryd.true3 (H : Heap) : ACalls Tryd.prog 3 [] H (fun v h => v = .bool true ∧ h = H) := goC_frame (Tryd.tabOK3 Tryd.true6) 300 Tryd.run3 rfl H
end Go.Proofs
