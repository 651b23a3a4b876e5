import Derived.Test.YtaplmfpbjplagabK30
open Go Go.Abs Go.Proofs
set_option maxRecDepth 100000
namespace Go.Proofs
theorem Try.run5 : isTrue ((goB Try.tab5 300).1 5 [] .nil 0) = true := by kernel_rfl
theorem Try.examples (H : Heap) : ACalls Try.prog 5 [] H (fun v h => v = .bool true ∧ h = H) := goB_frame (Try.tabOK5 Try.alive) 300 Try.run5 rfl H
end Go.Proofs
