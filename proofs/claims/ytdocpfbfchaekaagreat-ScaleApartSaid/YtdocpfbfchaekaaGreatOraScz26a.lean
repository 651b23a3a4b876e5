/- A closed function, by reckoning: its calls, each by itself. -/
import Derived.Test.YtdocpfbfchaekaaGreatOraScz26t
set_option linter.unusedSimpArgs false
set_option linter.unusedVariables false
open Go Go.Abs Go.Proofs
set_option maxRecDepth 100000
namespace Go.Proofs
theorem Tryz.r26_1:gcB Tryz.e26_1 [780] (goO Tryz.tab26 900 [] ⟨Tryz.ac34,[.t 4,.t 5],2⟩ Tryz.e26_1.args Tryz.e26_1.tr Tryz.e26_1.s)=true:=by kernel_rfl
theorem Tryz.o26_1:Tryz.e26_1.OK Tryz.prog:=goO_calls (Tryz.tabOK26) 900 [] (fun _ h=>by cases h) _ (e:=⟨Tryz.ac34,[.t 4,.t 5],2⟩) Tryz.ok34 _ Tryz.r26_1
theorem Tryz.r26_2:gcB Tryz.e26_2 [1265,1272] (goO Tryz.tab26 900 [] ⟨Tryz.ac39,[.cellN 6 2,.t 7],3⟩ Tryz.e26_2.args Tryz.e26_2.tr Tryz.e26_2.s)=true:=by kernel_rfl
theorem Tryz.o26_2:Tryz.e26_2.OK Tryz.prog:=goO_calls (Tryz.tabOK26) 900 [] (fun _ h=>by cases h) _ (e:=⟨Tryz.ac39,[.cellN 6 2,.t 7],3⟩) Tryz.ok39 _ Tryz.r26_2
theorem Tryz.r26_3:gcB Tryz.e26_3 [60] (goO Tryz.tab26 900 [] ⟨Tryz.ac35,[.t 2,.t 3],1⟩ Tryz.e26_3.args Tryz.e26_3.tr Tryz.e26_3.s)=true:=by kernel_rfl
theorem Tryz.o26_3:Tryz.e26_3.OK Tryz.prog:=goO_calls (Tryz.tabOK26) 900 [] (fun _ h=>by cases h) _ (e:=⟨Tryz.ac35,[.t 2,.t 3],1⟩) Tryz.ok35 _ Tryz.r26_3
end Go.Proofs
