/- A closed function, by reckoning: its calls, each by itself. -/
import Derived.Test.YthfmnemhgnipcaaOraSc3t
import Derived.Test.YthfmnemhgnipcaaOraSc4
set_option linter.unusedSimpArgs false
set_option linter.unusedVariables false
open Go Go.Abs Go.Proofs
set_option maxRecDepth 100000
namespace Go.Proofs
theorem Try.r3_10:gcB Try.e3_10 [] (goO Try.tab3 900 [] ⟨Try.ac11,[.t 4,.t 5],2⟩ Try.e3_10.args Try.e3_10.tr Try.e3_10.s)=true:=by kernel_rfl
theorem Try.o3_10:Try.e3_10.OK Try.prog:=goO_calls (Try.tabOK3 Try.true4) 900 [] (fun _ h=>by cases h) _ (e:=⟨Try.ac11,[.t 4,.t 5],2⟩) Try.ok11 _ Try.r3_10
theorem Try.r3_11:gcB Try.e3_11 [] (goO Try.tab3 900 [] ⟨Try.ac15,[.t 2,.t 3],1⟩ Try.e3_11.args Try.e3_11.tr Try.e3_11.s)=true:=by kernel_rfl
theorem Try.o3_11:Try.e3_11.OK Try.prog:=goO_calls (Try.tabOK3 Try.true4) 900 [] (fun _ h=>by cases h) _ (e:=⟨Try.ac15,[.t 2,.t 3],1⟩) Try.ok15 _ Try.r3_11
theorem Try.r3_12:gcB Try.e3_12 [] (goO Try.tab3 900 [] ⟨Try.ac16,[.cellN 6 2,.t 7],3⟩ Try.e3_12.args Try.e3_12.tr Try.e3_12.s)=true:=by kernel_rfl
theorem Try.o3_12:Try.e3_12.OK Try.prog:=goO_calls (Try.tabOK3 Try.true4) 900 [] (fun _ h=>by cases h) _ (e:=⟨Try.ac16,[.cellN 6 2,.t 7],3⟩) Try.ok16 _ Try.r3_12
end Go.Proofs
