/- A closed function, by reckoning: its calls, each by itself. -/
import Derived.Test.YthfmnemhgnipcaaOraSc4t
set_option linter.unusedSimpArgs false
set_option linter.unusedVariables false
open Go Go.Abs Go.Proofs
set_option maxRecDepth 100000
namespace Go.Proofs
theorem Try.r4_4:gcB Try.e4_4 [] (goO Try.tab4 900 [] ⟨Try.ac14,[.cellN 2 2,.t 3],1⟩ Try.e4_4.args Try.e4_4.tr Try.e4_4.s)=true:=by kernel_rfl
theorem Try.o4_4:Try.e4_4.OK Try.prog:=goO_calls (Try.tabOK4) 900 [] (fun _ h=>by cases h) _ (e:=⟨Try.ac14,[.cellN 2 2,.t 3],1⟩) Try.ok14 _ Try.r4_4
theorem Try.r4_5:gcB Try.e4_5 [974] (goO Try.tab4 900 [] ⟨Try.ac17,[.t 8,.t 9],4⟩ Try.e4_5.args Try.e4_5.tr Try.e4_5.s)=true:=by kernel_rfl
theorem Try.o4_5:Try.e4_5.OK Try.prog:=goO_calls (Try.tabOK4) 900 [] (fun _ h=>by cases h) _ (e:=⟨Try.ac17,[.t 8,.t 9],4⟩) Try.ok17 _ Try.r4_5
theorem Try.r4_6:gcB Try.e4_6 [] (goO Try.tab4 900 [] ⟨Try.ac19,[.t 8,.t 9],4⟩ Try.e4_6.args Try.e4_6.tr Try.e4_6.s)=true:=by kernel_rfl
theorem Try.o4_6:Try.e4_6.OK Try.prog:=goO_calls (Try.tabOK4) 900 [] (fun _ h=>by cases h) _ (e:=⟨Try.ac19,[.t 8,.t 9],4⟩) Try.ok19 _ Try.r4_6
end Go.Proofs
