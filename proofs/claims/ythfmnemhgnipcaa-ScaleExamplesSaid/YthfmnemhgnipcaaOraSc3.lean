/- A closed function, by reckoning: its calls, each by itself. -/
import Derived.Test.YthfmnemhgnipcaaOraSc3a
import Derived.Test.YthfmnemhgnipcaaOraSc3b
import Derived.Test.YthfmnemhgnipcaaOraSc3c
import Derived.Test.YthfmnemhgnipcaaOraSc3d
import Derived.Test.YthfmnemhgnipcaaOraSc3e
set_option linter.unusedSimpArgs false
set_option linter.unusedVariables false
open Go Go.Abs Go.Proofs
set_option maxRecDepth 100000
namespace Go.Proofs
noncomputable def Try.es3:List OEnt:=[Try.e3_1,Try.e3_2,Try.e3_3,Try.e3_4,Try.e3_5,Try.e3_6,Try.e3_7,Try.e3_8,Try.e3_9,Try.e3_10,Try.e3_11,Try.e3_12,Try.e3_13,Try.e3_14,Try.e3_15]
noncomputable def Try.e3:OEnt:=⟨3,[],.nil,0,.bool true,.nil,0⟩
theorem Try.r3:gcB Try.e3 [] (goO Try.tab3 900 Try.es3 ⟨Try.ac3,[.t 0],0⟩ [] .nil 0)=true:=by kernel_rfl
theorem Try.esOK3:∀ k∈Try.es3,k.OK Try.prog:=by
  intro k hk
  simp only [Try.es3,List.mem_cons,List.not_mem_nil,or_false] at hk
  rcases hk with rfl|rfl|rfl|rfl|rfl|rfl|rfl|rfl|rfl|rfl|rfl|rfl|rfl|rfl|rfl
  · exact Try.o3_1
  · exact Try.o3_2
  · exact Try.o3_3
  · exact Try.o3_4
  · exact Try.o3_5
  · exact Try.o3_6
  · exact Try.o3_7
  · exact Try.o3_8
  · exact Try.o3_9
  · exact Try.o3_10
  · exact Try.o3_11
  · exact Try.o3_12
  · exact Try.o3_13
  · exact Try.o3_14
  · exact Try.o3_15
theorem Try.true3 (H:Heap):ACalls Try.prog 3 [] H (fun v h=>v=.bool true∧h=H):=goO_frame (goO_calls (Try.tabOK3 Try.true4) 900 Try.es3 Try.esOK3 Try.e3 (e:=⟨Try.ac3,[.t 0],0⟩) Try.ok3 [] Try.r3) rfl rfl rfl rfl H
end Go.Proofs
