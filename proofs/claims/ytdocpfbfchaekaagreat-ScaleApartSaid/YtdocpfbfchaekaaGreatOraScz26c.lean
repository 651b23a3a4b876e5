/- A closed function, by reckoning: its calls, each by itself. -/
import Derived.Test.YtdocpfbfchaekaaGreatOraScz26t
set_option linter.unusedSimpArgs false
set_option linter.unusedVariables false
open Go Go.Abs Go.Proofs
set_option maxRecDepth 100000
namespace Go.Proofs
theorem Tryz.r26_7:gcB Tryz.e26_7 [] (goO Tryz.tab26 900 [] ⟨Tryz.ac32,[.cellN 4 2,.t 5],2⟩ Tryz.e26_7.args Tryz.e26_7.tr Tryz.e26_7.s)=true:=by kernel_rfl
theorem Tryz.o26_7:Tryz.e26_7.OK Tryz.prog:=goO_calls (Tryz.tabOK26) 900 [] (fun _ h=>by cases h) _ (e:=⟨Tryz.ac32,[.cellN 4 2,.t 5],2⟩) Tryz.ok32 _ Tryz.r26_7
theorem Tryz.r26_8:gcB Tryz.e26_8 [] (goO Tryz.tab26 900 [] ⟨Tryz.ac75,[.t 4],2⟩ Tryz.e26_8.args Tryz.e26_8.tr Tryz.e26_8.s)=true:=by kernel_rfl
theorem Tryz.o26_8:Tryz.e26_8.OK Tryz.prog:=goO_calls (Tryz.tabOK26) 900 [] (fun _ h=>by cases h) _ (e:=⟨Tryz.ac75,[.t 4],2⟩) Tryz.ok75 _ Tryz.r26_8
theorem Tryz.r26_9:gcB Tryz.e26_9 [] (goO Tryz.tab26 900 [] ⟨Tryz.ac77,[.t 8],4⟩ Tryz.e26_9.args Tryz.e26_9.tr Tryz.e26_9.s)=true:=by kernel_rfl
theorem Tryz.o26_9:Tryz.e26_9.OK Tryz.prog:=goO_calls (Tryz.tabOK26) 900 [] (fun _ h=>by cases h) _ (e:=⟨Tryz.ac77,[.t 8],4⟩) Tryz.ok77 _ Tryz.r26_9
end Go.Proofs
