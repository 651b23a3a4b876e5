/- A closed function, by reckoning: its calls, each by itself. -/
import Derived.Test.YtiphpoheghdnfaaOraSc15t
set_option linter.unusedSimpArgs false
set_option linter.unusedVariables false
open Go Go.Abs Go.Proofs
set_option maxRecDepth 100000
namespace Go.Proofs
theorem Try.r15_7:gcB Try.e15_7 [] (goO Try.tab15 900 [] ⟨Try.ac9,[.cellN 4 2,.t 5],2⟩ Try.e15_7.args Try.e15_7.tr Try.e15_7.s)=true:=by kernel_rfl
theorem Try.o15_7:Try.e15_7.OK Try.prog:=goO_calls (Try.tabOK15) 900 [] (fun _ h=>by cases h) _ (e:=⟨Try.ac9,[.cellN 4 2,.t 5],2⟩) Try.ok9 _ Try.r15_7
theorem Try.r15_8:gcB Try.e15_8 [] (goO Try.tab15 900 [] ⟨Try.ac44,[.t 4],2⟩ Try.e15_8.args Try.e15_8.tr Try.e15_8.s)=true:=by kernel_rfl
theorem Try.o15_8:Try.e15_8.OK Try.prog:=goO_calls (Try.tabOK15) 900 [] (fun _ h=>by cases h) _ (e:=⟨Try.ac44,[.t 4],2⟩) Try.ok44 _ Try.r15_8
theorem Try.r15_9:gcB Try.e15_9 [] (goO Try.tab15 900 [] ⟨Try.ac49,[.t 8],4⟩ Try.e15_9.args Try.e15_9.tr Try.e15_9.s)=true:=by kernel_rfl
theorem Try.o15_9:Try.e15_9.OK Try.prog:=goO_calls (Try.tabOK15) 900 [] (fun _ h=>by cases h) _ (e:=⟨Try.ac49,[.t 8],4⟩) Try.ok49 _ Try.r15_9
end Go.Proofs
