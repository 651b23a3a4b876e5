/- A closed function, by reckoning: its calls, each by itself. -/
import Derived.Test.YtdocpfbfchaekaaGreatOraScz26a
import Derived.Test.YtdocpfbfchaekaaGreatOraScz26b
import Derived.Test.YtdocpfbfchaekaaGreatOraScz26c
set_option linter.unusedSimpArgs false
set_option linter.unusedVariables false
open Go Go.Abs Go.Proofs
set_option maxRecDepth 100000
namespace Go.Proofs
noncomputable def Tryz.es26:List OEnt:=[Tryz.e26_1,Tryz.e26_2,Tryz.e26_3,Tryz.e26_4,Tryz.e26_5,Tryz.e26_6,Tryz.e26_7,Tryz.e26_8,Tryz.e26_9]
noncomputable def Tryz.e26:OEnt:=⟨26,[],.nil,0,.bool true,.nil,0⟩
theorem Tryz.r26:gcB Tryz.e26 [] (goO Tryz.tab26 900 Tryz.es26 ⟨Tryz.ac26,[.t 0],0⟩ [] .nil 0)=true:=by kernel_rfl
theorem Tryz.esOK26:∀ k∈Tryz.es26,k.OK Tryz.prog:=by
  intro k hk
  simp only [Tryz.es26,List.mem_cons,List.not_mem_nil,or_false] at hk
  rcases hk with rfl|rfl|rfl|rfl|rfl|rfl|rfl|rfl|rfl
  · exact Tryz.o26_1
  · exact Tryz.o26_2
  · exact Tryz.o26_3
  · exact Tryz.o26_4
  · exact Tryz.o26_5
  · exact Tryz.o26_6
  · exact Tryz.o26_7
  · exact Tryz.o26_8
  · exact Tryz.o26_9
theorem Tryz.true26 (H:Heap):ACalls Tryz.prog 26 [] H (fun v h=>v=.bool true∧h=H):=goO_frame (goO_calls (Tryz.tabOK26) 900 Tryz.es26 Tryz.esOK26 Tryz.e26 (e:=⟨Tryz.ac26,[.t 0],0⟩) Tryz.ok26 [] Tryz.r26) rfl rfl rfl rfl H
end Go.Proofs
