/- A closed function, by reckoning: its calls, each by itself. -/
import Derived.Test.YtiphpoheghdnfaaOraSc15t
set_option linter.unusedSimpArgs false
set_option linter.unusedVariables false
open Go Go.Abs Go.Proofs
set_option maxRecDepth 100000
namespace Go.Proofs
theorem Try.r15_1:gcB Try.e15_1 [780] (goO Try.tab15 900 [] ⟨Try.ac35,[.t 4,.t 5],2⟩ Try.e15_1.args Try.e15_1.tr Try.e15_1.s)=true:=by kernel_rfl
theorem Try.o15_1:Try.e15_1.OK Try.prog:=goO_calls (Try.tabOK15) 900 [] (fun _ h=>by cases h) _ (e:=⟨Try.ac35,[.t 4,.t 5],2⟩) Try.ok35 _ Try.r15_1
theorem Try.r15_2:gcB Try.e15_2 [1265,1272] (goO Try.tab15 900 [] ⟨Try.ac38,[.cellN 6 2,.t 7],3⟩ Try.e15_2.args Try.e15_2.tr Try.e15_2.s)=true:=by kernel_rfl
theorem Try.o15_2:Try.e15_2.OK Try.prog:=goO_calls (Try.tabOK15) 900 [] (fun _ h=>by cases h) _ (e:=⟨Try.ac38,[.cellN 6 2,.t 7],3⟩) Try.ok38 _ Try.r15_2
theorem Try.r15_3:gcB Try.e15_3 [60] (goO Try.tab15 900 [] ⟨Try.ac39,[.t 2,.t 3],1⟩ Try.e15_3.args Try.e15_3.tr Try.e15_3.s)=true:=by kernel_rfl
theorem Try.o15_3:Try.e15_3.OK Try.prog:=goO_calls (Try.tabOK15) 900 [] (fun _ h=>by cases h) _ (e:=⟨Try.ac39,[.t 2,.t 3],1⟩) Try.ok39 _ Try.r15_3
end Go.Proofs
