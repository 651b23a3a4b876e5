/- A closed function, by reckoning: its calls, each by itself. -/
import Derived.Test.YthfmnemhgnipcaaOraSc4a
import Derived.Test.YthfmnemhgnipcaaOraSc4b
import Derived.Test.YthfmnemhgnipcaaOraSc4c
set_option linter.unusedSimpArgs false
set_option linter.unusedVariables false
open Go Go.Abs Go.Proofs
set_option maxRecDepth 100000
namespace Go.Proofs
noncomputable def Try.es4:List OEnt:=[Try.e4_1,Try.e4_2,Try.e4_3,Try.e4_4,Try.e4_5,Try.e4_6,Try.e4_7,Try.e4_8,Try.e4_9]
noncomputable def Try.e4:OEnt:=⟨4,[],.nil,0,.bool true,.nil,0⟩
theorem Try.r4:gcB Try.e4 [] (goO Try.tab4 900 Try.es4 ⟨Try.ac4,[.t 0],0⟩ [] .nil 0)=true:=by kernel_rfl
theorem Try.esOK4:∀ k∈Try.es4,k.OK Try.prog:=by
  intro k hk
  simp only [Try.es4,List.mem_cons,List.not_mem_nil,or_false] at hk
  rcases hk with rfl|rfl|rfl|rfl|rfl|rfl|rfl|rfl|rfl
  · exact Try.o4_1
  · exact Try.o4_2
  · exact Try.o4_3
  · exact Try.o4_4
  · exact Try.o4_5
  · exact Try.o4_6
  · exact Try.o4_7
  · exact Try.o4_8
  · exact Try.o4_9
theorem Try.true4 (H:Heap):ACalls Try.prog 4 [] H (fun v h=>v=.bool true∧h=H):=goO_frame (goO_calls (Try.tabOK4) 900 Try.es4 Try.esOK4 Try.e4 (e:=⟨Try.ac4,[.t 0],0⟩) Try.ok4 [] Try.r4) rfl rfl rfl rfl H
end Go.Proofs
