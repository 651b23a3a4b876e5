/- A closed function, by reckoning: its calls, each by itself. -/
import Derived.Test.YthfmnemhgnipcaaOraSc3t
import Derived.Test.YthfmnemhgnipcaaOraSc4
set_option linter.unusedSimpArgs false
set_option linter.unusedVariables false
open Go Go.Abs Go.Proofs
set_option maxRecDepth 100000
namespace Go.Proofs
theorem Try.r3_1:gcB Try.e3_1 [] (goO Try.tab3 900 [] ⟨Try.ac5,[.t 4],2⟩ Try.e3_1.args Try.e3_1.tr Try.e3_1.s)=true:=by kernel_rfl
theorem Try.o3_1:Try.e3_1.OK Try.prog:=goO_calls (Try.tabOK3 Try.true4) 900 [] (fun _ h=>by cases h) _ (e:=⟨Try.ac5,[.t 4],2⟩) Try.ok5 _ Try.r3_1
theorem Try.r3_2:gcB Try.e3_2 [] (goO Try.tab3 900 [] ⟨Try.ac6,[.t 8],4⟩ Try.e3_2.args Try.e3_2.tr Try.e3_2.s)=true:=by kernel_rfl
theorem Try.o3_2:Try.e3_2.OK Try.prog:=goO_calls (Try.tabOK3 Try.true4) 900 [] (fun _ h=>by cases h) _ (e:=⟨Try.ac6,[.t 8],4⟩) Try.ok6 _ Try.r3_2
theorem Try.r3_3:gcB Try.e3_3 [] (goO Try.tab3 900 [] ⟨Try.ac6,[.t 8],4⟩ Try.e3_3.args Try.e3_3.tr Try.e3_3.s)=true:=by kernel_rfl
theorem Try.o3_3:Try.e3_3.OK Try.prog:=goO_calls (Try.tabOK3 Try.true4) 900 [] (fun _ h=>by cases h) _ (e:=⟨Try.ac6,[.t 8],4⟩) Try.ok6 _ Try.r3_3
end Go.Proofs
