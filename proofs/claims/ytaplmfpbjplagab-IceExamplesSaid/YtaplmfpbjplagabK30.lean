import Derived.Test.YtaplmfpbjplagabBl1
import Derived.Test.YtaplmfpbjplagabA41
import Derived.KernelRfl
open Go Go.Abs Go.Proofs
set_option maxRecDepth 100000
namespace Go.Proofs
theorem Try.run30 : isTrue ((goB Try.tab30 300).1 30 [] .nil 0) = true := by kernel_rfl
theorem Try.alive (H : Heap) : ACalls Try.prog 30 [] H (fun v h => v = .bool true ∧ h = H) := goB_frame Try.tabOK30 300 Try.run30 rfl H
end Go.Proofs
