/- A closed function, by reckoning: its calls, each by itself. -/
import Derived.Test.YthfmnemhgnipcaaOraSc3t
import Derived.Test.YthfmnemhgnipcaaOraSc4
set_option linter.unusedSimpArgs false
set_option linter.unusedVariables false
open Go Go.Abs Go.Proofs
set_option maxRecDepth 100000
namespace Go.Proofs
theorem Try.r3_7:gcB Try.e3_7 [] (goO Try.tab3 900 [] ⟨Try.ac12,[.t 6,.t 7,.t 8],3⟩ Try.e3_7.args Try.e3_7.tr Try.e3_7.s)=true:=by kernel_rfl
theorem Try.o3_7:Try.e3_7.OK Try.prog:=goO_calls (Try.tabOK3 Try.true4) 900 [] (fun _ h=>by cases h) _ (e:=⟨Try.ac12,[.t 6,.t 7,.t 8],3⟩) Try.ok12 _ Try.r3_7
theorem Try.r3_8:gcB Try.e3_8 [] (goO Try.tab3 900 [] ⟨Try.ac12,[.t 6,.t 7,.t 8],3⟩ Try.e3_8.args Try.e3_8.tr Try.e3_8.s)=true:=by kernel_rfl
theorem Try.o3_8:Try.e3_8.OK Try.prog:=goO_calls (Try.tabOK3 Try.true4) 900 [] (fun _ h=>by cases h) _ (e:=⟨Try.ac12,[.t 6,.t 7,.t 8],3⟩) Try.ok12 _ Try.r3_8
theorem Try.r3_9:gcB Try.e3_9 [] (goO Try.tab3 900 [] ⟨Try.ac14,[.cellN 2 2,.t 3],1⟩ Try.e3_9.args Try.e3_9.tr Try.e3_9.s)=true:=by kernel_rfl
theorem Try.o3_9:Try.e3_9.OK Try.prog:=goO_calls (Try.tabOK3 Try.true4) 900 [] (fun _ h=>by cases h) _ (e:=⟨Try.ac14,[.cellN 2 2,.t 3],1⟩) Try.ok14 _ Try.r3_9
end Go.Proofs
