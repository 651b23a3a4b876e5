/- A closed function, by reckoning: its calls, each by itself. -/
import Derived.Test.YtiphpoheghdnfaaOraSc15t
set_option linter.unusedSimpArgs false
set_option linter.unusedVariables false
open Go Go.Abs Go.Proofs
set_option maxRecDepth 100000
namespace Go.Proofs
theorem Try.r15_4:gcB Try.e15_4 [] (goO Try.tab15 900 [] ⟨Try.ac40,[.cellN 2 2,.t 3],1⟩ Try.e15_4.args Try.e15_4.tr Try.e15_4.s)=true:=by kernel_rfl
theorem Try.o15_4:Try.e15_4.OK Try.prog:=goO_calls (Try.tabOK15) 900 [] (fun _ h=>by cases h) _ (e:=⟨Try.ac40,[.cellN 2 2,.t 3],1⟩) Try.ok40 _ Try.r15_4
theorem Try.r15_5:gcB Try.e15_5 [974] (goO Try.tab15 900 [] ⟨Try.ac42,[.t 8,.t 9],4⟩ Try.e15_5.args Try.e15_5.tr Try.e15_5.s)=true:=by kernel_rfl
theorem Try.o15_5:Try.e15_5.OK Try.prog:=goO_calls (Try.tabOK15) 900 [] (fun _ h=>by cases h) _ (e:=⟨Try.ac42,[.t 8,.t 9],4⟩) Try.ok42 _ Try.r15_5
theorem Try.r15_6:gcB Try.e15_6 [] (goO Try.tab15 900 [] ⟨Try.ac43,[.t 8,.t 9],4⟩ Try.e15_6.args Try.e15_6.tr Try.e15_6.s)=true:=by kernel_rfl
theorem Try.o15_6:Try.e15_6.OK Try.prog:=goO_calls (Try.tabOK15) 900 [] (fun _ h=>by cases h) _ (e:=⟨Try.ac43,[.t 8,.t 9],4⟩) Try.ok43 _ Try.r15_6
end Go.Proofs
