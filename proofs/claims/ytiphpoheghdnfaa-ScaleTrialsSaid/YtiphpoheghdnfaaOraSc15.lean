/- A closed function, by reckoning: its calls, each by itself. -/
import Derived.Test.YtiphpoheghdnfaaOraSc15a
import Derived.Test.YtiphpoheghdnfaaOraSc15b
import Derived.Test.YtiphpoheghdnfaaOraSc15c
set_option linter.unusedSimpArgs false
set_option linter.unusedVariables false
open Go Go.Abs Go.Proofs
set_option maxRecDepth 100000
namespace Go.Proofs
noncomputable def Try.es15:List OEnt:=[Try.e15_1,Try.e15_2,Try.e15_3,Try.e15_4,Try.e15_5,Try.e15_6,Try.e15_7,Try.e15_8,Try.e15_9]
noncomputable def Try.e15:OEnt:=⟨15,[],.nil,0,.bool true,.nil,0⟩
theorem Try.r15:gcB Try.e15 [] (goO Try.tab15 900 Try.es15 ⟨Try.ac15,[.t 0],0⟩ [] .nil 0)=true:=by kernel_rfl
theorem Try.esOK15:∀ k∈Try.es15,k.OK Try.prog:=by
  intro k hk
  simp only [Try.es15,List.mem_cons,List.not_mem_nil,or_false] at hk
  rcases hk with rfl|rfl|rfl|rfl|rfl|rfl|rfl|rfl|rfl
  · exact Try.o15_1
  · exact Try.o15_2
  · exact Try.o15_3
  · exact Try.o15_4
  · exact Try.o15_5
  · exact Try.o15_6
  · exact Try.o15_7
  · exact Try.o15_8
  · exact Try.o15_9
theorem Try.true15 (H:Heap):ACalls Try.prog 15 [] H (fun v h=>v=.bool true∧h=H):=goO_frame (goO_calls (Try.tabOK15) 900 Try.es15 Try.esOK15 Try.e15 (e:=⟨Try.ac15,[.t 0],0⟩) Try.ok15 [] Try.r15) rfl rfl rfl rfl H
end Go.Proofs
