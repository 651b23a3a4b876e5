import Derived.Test.YtbfihdpmphlckaaCodeIceAlive
import Derived.Test.YtbfihdpmphlckaaA41
import Derived.KernelRfl
open Go Go.Abs Go.Proofs
set_option maxRecDepth 100000
namespace Go.Proofs
theorem Try.run21 : isTrue ((goC Try.tab21 300).1 21 [] .nil 0)=true:=by kernel_rfl
theorem Try.true21 (H : Heap) : ACalls Try.prog 21 [] H (fun v h=>v=.bool true∧h=H):=goC_frame (Try.tabOK21) 300 Try.run21 rfl H
end Go.Proofs
