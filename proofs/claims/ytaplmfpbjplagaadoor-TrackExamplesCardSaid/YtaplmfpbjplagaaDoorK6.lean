import Derived.Test.YtaplmfpbjplagaaDoorDl1
import Derived.Test.YtaplmfpbjplagaaDoorA41
import Derived.KernelRfl
open Go Go.Abs Go.Proofs
set_option maxRecDepth 100000
namespace Go.Proofs
theorem Tryd.run6 : isTrue ((goB Tryd.tab6 300).1 6 [] .nil 0) = true := by kernel_rfl
theorem Tryd.alive (H : Heap) : ACalls Tryd.prog 6 [] H (fun v h => v = .bool true ∧ h = H) := goB_frame Tryd.tabOK6 300 Tryd.run6 rfl H
theorem Tryd.run3 : isTrue ((goB Tryd.tab3 300).1 3 [] .nil 0) = true := by kernel_rfl
theorem Tryd.examples (H : Heap) : ACalls Tryd.prog 3 [] H (fun v h => v = .bool true ∧ h = H) := goB_frame (Tryd.tabOK3 Tryd.alive) 300 Tryd.run3 rfl H
end Go.Proofs
