/- A closed function, by reckoning: its calls, each by itself. -/
import Derived.Test.YthfmnemhgnipcaaOraSc3t
import Derived.Test.YthfmnemhgnipcaaOraSc4
set_option linter.unusedSimpArgs false
set_option linter.unusedVariables false
open Go Go.Abs Go.Proofs
set_option maxRecDepth 100000
namespace Go.Proofs
theorem Try.r3_4:gcB Try.e3_4 [] (goO Try.tab3 900 [] ⟨Try.ac7,[.cellN 4 2,.t 5],2⟩ Try.e3_4.args Try.e3_4.tr Try.e3_4.s)=true:=by kernel_rfl
theorem Try.o3_4:Try.e3_4.OK Try.prog:=goO_calls (Try.tabOK3 Try.true4) 900 [] (fun _ h=>by cases h) _ (e:=⟨Try.ac7,[.cellN 4 2,.t 5],2⟩) Try.ok7 _ Try.r3_4
theorem Try.r3_5:gcB Try.e3_5 [] (goO Try.tab3 900 [] ⟨Try.ac11,[.t 4,.t 5],2⟩ Try.e3_5.args Try.e3_5.tr Try.e3_5.s)=true:=by kernel_rfl
theorem Try.o3_5:Try.e3_5.OK Try.prog:=goO_calls (Try.tabOK3 Try.true4) 900 [] (fun _ h=>by cases h) _ (e:=⟨Try.ac11,[.t 4,.t 5],2⟩) Try.ok11 _ Try.r3_5
theorem Try.r3_6:gcB Try.e3_6 [] (goO Try.tab3 900 [] ⟨Try.ac11,[.t 4,.t 5],2⟩ Try.e3_6.args Try.e3_6.tr Try.e3_6.s)=true:=by kernel_rfl
theorem Try.o3_6:Try.e3_6.OK Try.prog:=goO_calls (Try.tabOK3 Try.true4) 900 [] (fun _ h=>by cases h) _ (e:=⟨Try.ac11,[.t 4,.t 5],2⟩) Try.ok11 _ Try.r3_6
end Go.Proofs
