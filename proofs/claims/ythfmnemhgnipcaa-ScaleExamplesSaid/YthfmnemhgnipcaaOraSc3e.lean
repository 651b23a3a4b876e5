/- A closed function, by reckoning: its calls, each by itself. -/
import Derived.Test.YthfmnemhgnipcaaOraSc3t
import Derived.Test.YthfmnemhgnipcaaOraSc4
set_option linter.unusedSimpArgs false
set_option linter.unusedVariables false
open Go Go.Abs Go.Proofs
set_option maxRecDepth 100000
namespace Go.Proofs
theorem Try.r3_13:gcB Try.e3_13 [] (goO Try.tab3 900 [] ⟨Try.ac17,[.t 8,.t 9],4⟩ Try.e3_13.args Try.e3_13.tr Try.e3_13.s)=true:=by kernel_rfl
theorem Try.o3_13:Try.e3_13.OK Try.prog:=goO_calls (Try.tabOK3 Try.true4) 900 [] (fun _ h=>by cases h) _ (e:=⟨Try.ac17,[.t 8,.t 9],4⟩) Try.ok17 _ Try.r3_13
theorem Try.r3_14:gcB Try.e3_14 [] (goO Try.tab3 900 [] ⟨Try.ac17,[.t 8,.t 9],4⟩ Try.e3_14.args Try.e3_14.tr Try.e3_14.s)=true:=by kernel_rfl
theorem Try.o3_14:Try.e3_14.OK Try.prog:=goO_calls (Try.tabOK3 Try.true4) 900 [] (fun _ h=>by cases h) _ (e:=⟨Try.ac17,[.t 8,.t 9],4⟩) Try.ok17 _ Try.r3_14
theorem Try.r3_15:gcB Try.e3_15 [] (goO Try.tab3 900 [] ⟨Try.ac7,[.cellN 4 2,.t 5],2⟩ Try.e3_15.args Try.e3_15.tr Try.e3_15.s)=true:=by kernel_rfl
theorem Try.o3_15:Try.e3_15.OK Try.prog:=goO_calls (Try.tabOK3 Try.true4) 900 [] (fun _ h=>by cases h) _ (e:=⟨Try.ac7,[.cellN 4 2,.t 5],2⟩) Try.ok7 _ Try.r3_15
end Go.Proofs
