/- A closed function, by reckoning: its calls, each by itself. -/
import Derived.Test.YthfmnemhgnipcaaOraSc4t
set_option linter.unusedSimpArgs false
set_option linter.unusedVariables false
open Go Go.Abs Go.Proofs
set_option maxRecDepth 100000
namespace Go.Proofs
theorem Try.r4_7:gcB Try.e4_7 [] (goO Try.tab4 900 [] ⟨Try.ac7,[.cellN 4 2,.t 5],2⟩ Try.e4_7.args Try.e4_7.tr Try.e4_7.s)=true:=by kernel_rfl
theorem Try.o4_7:Try.e4_7.OK Try.prog:=goO_calls (Try.tabOK4) 900 [] (fun _ h=>by cases h) _ (e:=⟨Try.ac7,[.cellN 4 2,.t 5],2⟩) Try.ok7 _ Try.r4_7
theorem Try.r4_8:gcB Try.e4_8 [] (goO Try.tab4 900 [] ⟨Try.ac5,[.t 4],2⟩ Try.e4_8.args Try.e4_8.tr Try.e4_8.s)=true:=by kernel_rfl
theorem Try.o4_8:Try.e4_8.OK Try.prog:=goO_calls (Try.tabOK4) 900 [] (fun _ h=>by cases h) _ (e:=⟨Try.ac5,[.t 4],2⟩) Try.ok5 _ Try.r4_8
theorem Try.r4_9:gcB Try.e4_9 [] (goO Try.tab4 900 [] ⟨Try.ac6,[.t 8],4⟩ Try.e4_9.args Try.e4_9.tr Try.e4_9.s)=true:=by kernel_rfl
theorem Try.o4_9:Try.e4_9.OK Try.prog:=goO_calls (Try.tabOK4) 900 [] (fun _ h=>by cases h) _ (e:=⟨Try.ac6,[.t 8],4⟩) Try.ok6 _ Try.r4_9
end Go.Proofs
