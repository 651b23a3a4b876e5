/- A closed function, by reckoning: its calls, each by itself. -/
import Derived.Test.YtdocpfbfchaekaaGreatOraScz26t
set_option linter.unusedSimpArgs false
set_option linter.unusedVariables false
open Go Go.Abs Go.Proofs
set_option maxRecDepth 100000
namespace Go.Proofs
theorem Tryz.r26_4:gcB Tryz.e26_4 [] (goO Tryz.tab26 900 [] ⟨Tryz.ac36,[.cellN 2 2,.t 3],1⟩ Tryz.e26_4.args Tryz.e26_4.tr Tryz.e26_4.s)=true:=by kernel_rfl
theorem Tryz.o26_4:Tryz.e26_4.OK Tryz.prog:=goO_calls (Tryz.tabOK26) 900 [] (fun _ h=>by cases h) _ (e:=⟨Tryz.ac36,[.cellN 2 2,.t 3],1⟩) Tryz.ok36 _ Tryz.r26_4
theorem Tryz.r26_5:gcB Tryz.e26_5 [973] (goO Tryz.tab26 900 [] ⟨Tryz.ac20,[.t 8,.t 9],4⟩ Tryz.e26_5.args Tryz.e26_5.tr Tryz.e26_5.s)=true:=by kernel_rfl
theorem Tryz.o26_5:Tryz.e26_5.OK Tryz.prog:=goO_calls (Tryz.tabOK26) 900 [] (fun _ h=>by cases h) _ (e:=⟨Tryz.ac20,[.t 8,.t 9],4⟩) Tryz.ok20 _ Tryz.r26_5
theorem Tryz.r26_6:gcB Tryz.e26_6 [] (goO Tryz.tab26 900 [] ⟨Tryz.ac18,[.t 8,.t 9],4⟩ Tryz.e26_6.args Tryz.e26_6.tr Tryz.e26_6.s)=true:=by kernel_rfl
theorem Tryz.o26_6:Tryz.e26_6.OK Tryz.prog:=goO_calls (Tryz.tabOK26) 900 [] (fun _ h=>by cases h) _ (e:=⟨Tryz.ac18,[.t 8,.t 9],4⟩) Tryz.ok18 _ Tryz.r26_6
end Go.Proofs
