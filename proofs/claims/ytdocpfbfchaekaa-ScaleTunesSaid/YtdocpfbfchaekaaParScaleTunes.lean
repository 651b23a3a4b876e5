/- Facts of the row ScaleTunes, reckoned one by one. -/
import Derived.Test.YtdocpfbfchaekaaRows
import Derived.ProofKit
set_option linter.unusedSimpArgs false
set_option linter.unusedVariables false
namespace Go.Proofs.Ytdocpfbfchaekaa
open Go.ChangeShapes Go.WideShapes Go.ChangeAt
namespace ParScaleTunes
theorem band {a b:Bool} (ha:a=true) (hb:b=true):(a && b)=true:=by rw [ha,hb];rfl
theorem k0:(Rows.scaleTunesRow.wf (OpenSpec.ofChange Rows.scaleTunesSpec))=true:=by kernel_rfl
theorem k1:(laidOutB Try.prog)=true:=by kernel_rfl
theorem k2:(mapsRowed Try.prog)=true:=by kernel_rfl
theorem k3:(Try.f3.params.all (Try.prog.readableRec ·))=true:=by kernel_rfl
theorem k4:(namedTie Try.prog Rows.scaleTunesRow.named Rows.scaleTunesSpec.vars)=true:=by kernel_rfl
theorem k5:((Rows.scaleTunesRow.stops == []))=true:=by kernel_rfl
theorem k6:((Try.prog.stops == []))=true:=by kernel_rfl
theorem k7:((Rows.scaleTunesRow.knobs == []))=true:=by kernel_rfl
theorem k8:((Try.prog.stopKnobs == []))=true:=by kernel_rfl
theorem k9:((Rows.scaleTunesRow.inPlace == Try.prog.inPlace 3))=true:=by kernel_rfl
theorem k10:((Rows.scaleTunesRow.unfollowed == Try.prog.unfollowed 3))=true:=by kernel_rfl
theorem k11:((Rows.scaleTunesRow.recurses == Try.prog.recurses 3))=true:=by kernel_rfl
theorem k12:((Rows.scaleTunesRow.named == Try.prog.varsNamed 3))=true:=by kernel_rfl
theorem k13:((Rows.scaleTunesRow.maps == (Try.f3.params.toList++Rows.scaleTunesSpec.plain.varTypes Try.prog).any (Try.prog.mapsRec ·)))=true:=by kernel_rfl
theorem k14:((Rows.scaleTunesRow.ifaces == (Try.f3.params.toList++Rows.scaleTunesSpec.plain.varTypes Try.prog).any (Try.prog.ifacesRec ·)))=true:=by kernel_rfl
theorem k15:((Rows.scaleTunesRow.mapsOut == Try.prog.mapsAmong Try.f3.resultTypes.toList))=true:=by kernel_rfl
theorem k16:((Rows.scaleTunesRow.loops == (Try.f3.params.toList++Rows.scaleTunesSpec.plain.varTypes Try.prog).any (Try.prog.loopsFrom ·)))=true:=by kernel_rfl
theorem k17:((Rows.scaleTunesRow.wideKeys == (Try.f3.params.toList++Rows.scaleTunesSpec.plain.varTypes Try.prog++Try.f3.resultTypes.toList).any (Try.prog.wideKeysFrom ·)))=true:=by kernel_rfl
theorem k18:(Rows.scaleTunesSpec.vars.all (Try.prog.varReadable ·))=true:=by kernel_rfl
theorem k19:(Try.f3.resultTypes.all (fun t=>Try.prog.readableRec t && decide (t<Try.prog.types.size)))=true:=by kernel_rfl
theorem k20:((Rows.scaleTunesRow.ifacesOut == Try.f3.resultTypes.toList.any (Try.prog.ifacesRec ·)))=true:=by kernel_rfl
theorem k21:((Rows.scaleTunesRow.loopsOut == Try.f3.resultTypes.toList.any (Try.prog.loopsFrom ·)))=true:=by kernel_rfl
theorem k22:((Rows.scaleTunesRow.plainKeys == Try.prog.plainKeys))=true:=by kernel_rfl
theorem k23:(Rows.scaleTunesRow.shortTexts.isNone)=true:=by kernel_rfl
theorem k24:(Try.prog.stopsHeard)=true:=by kernel_rfl
theorem k25:(Try.prog.mayEnter)=true:=by kernel_rfl
theorem k26:((Rows.scaleTunesRow.lifted == Try.prog.liftsFinal))=true:=by kernel_rfl
theorem k27:((Try.prog.make == some Rows.scaleTunesRow.make))=true:=by kernel_rfl
theorem k28:((Rows.scaleTunesRow.kinds == (if Rows.scaleTunesRow.domain.isEmpty then [] else Try.f3.params.toList.map fun t=>match Try.prog.underlying t with|some (.int k)=>some k|_=>none)))=true:=by kernel_rfl
theorem k29:((Rows.scaleTunesRow.pinned == Rows.scaleTunesRow.pinnedBy))=true:=by kernel_rfl
theorem k30:((Rows.scaleTunesRow.veiled == (Try.f3.params.toList++Rows.scaleTunesSpec.plain.varTypes Try.prog++Try.f3.resultTypes.toList).any (Try.prog.veiledRec ·)))=true:=by kernel_rfl
theorem k31:(Rows.scaleTunesRow.veiledFits Try.prog Try.f3.params.toList (Try.f3.params.toList++Rows.scaleTunesSpec.plain.varTypes Try.prog++Try.f3.resultTypes.toList))=true:=by kernel_rfl
end ParScaleTunes
end Go.Proofs.Ytdocpfbfchaekaa
