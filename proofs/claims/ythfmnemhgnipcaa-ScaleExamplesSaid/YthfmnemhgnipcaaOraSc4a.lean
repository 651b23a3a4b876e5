/- A closed function, by reckoning: its calls, each by itself. -/
import Derived.Test.YthfmnemhgnipcaaOraSc4t
set_option linter.unusedSimpArgs false
set_option linter.unusedVariables false
open Go Go.Abs Go.Proofs
set_option maxRecDepth 100000
namespace Go.Proofs
theorem Try.r4_1:gcB Try.e4_1 [780] (goO Try.tab4 900 [] ⟨Try.ac11,[.t 4,.t 5],2⟩ Try.e4_1.args Try.e4_1.tr Try.e4_1.s)=true:=by kernel_rfl
theorem Try.o4_1:Try.e4_1.OK Try.prog:=goO_calls (Try.tabOK4) 900 [] (fun _ h=>by cases h) _ (e:=⟨Try.ac11,[.t 4,.t 5],2⟩) Try.ok11 _ Try.r4_1
theorem Try.r4_2:gcB Try.e4_2 [1265,1272] (goO Try.tab4 900 [] ⟨Try.ac16,[.cellN 6 2,.t 7],3⟩ Try.e4_2.args Try.e4_2.tr Try.e4_2.s)=true:=by kernel_rfl
theorem Try.o4_2:Try.e4_2.OK Try.prog:=goO_calls (Try.tabOK4) 900 [] (fun _ h=>by cases h) _ (e:=⟨Try.ac16,[.cellN 6 2,.t 7],3⟩) Try.ok16 _ Try.r4_2
theorem Try.r4_3:gcB Try.e4_3 [60] (goO Try.tab4 900 [] ⟨Try.ac18,[.t 2,.t 3],1⟩ Try.e4_3.args Try.e4_3.tr Try.e4_3.s)=true:=by kernel_rfl
theorem Try.o4_3:Try.e4_3.OK Try.prog:=goO_calls (Try.tabOK4) 900 [] (fun _ h=>by cases h) _ (e:=⟨Try.ac18,[.t 2,.t 3],1⟩) Try.ok18 _ Try.r4_3
end Go.Proofs
