/- Facts of the row ScaleTrials, reckoned one by one. -/
import Derived.Test.YtiphpoheghdnfaaRows
import Derived.ProofKit
set_option linter.unusedSimpArgs false
set_option linter.unusedVariables false
namespace Go.Proofs.Ytiphpoheghdnfaa
open Go.ChangeShapes Go.WideShapes Go.ChangeAt
namespace ParScaleTrials
theorem band {a b:Bool} (ha:a=true) (hb:b=true):(a && b)=true:=by rw [ha,hb];rfl
theorem k0:(Rows.scaleTrialsRow.wf (OpenSpec.ofChange Rows.scaleTrialsSpec))=true:=by kernel_rfl
theorem k1:(laidOutB Try.prog)=true:=by kernel_rfl
theorem k2:(mapsRowed Try.prog)=true:=by kernel_rfl
theorem k3:(Try.f4.params.all (Try.prog.readableRec ·))=true:=by kernel_rfl
theorem k4:(namedTie Try.prog Rows.scaleTrialsRow.named Rows.scaleTrialsSpec.vars)=true:=by kernel_rfl
theorem k5:((Rows.scaleTrialsRow.stops == []))=true:=by kernel_rfl
theorem k6:((Try.prog.stops == []))=true:=by kernel_rfl
theorem k7:((Rows.scaleTrialsRow.knobs == []))=true:=by kernel_rfl
theorem k8:((Try.prog.stopKnobs == []))=true:=by kernel_rfl
theorem k9:((Rows.scaleTrialsRow.inPlace == Try.prog.inPlace 4))=true:=by kernel_rfl
theorem k10:((Rows.scaleTrialsRow.unfollowed == Try.prog.unfollowed 4))=true:=by kernel_rfl
theorem k11:((Rows.scaleTrialsRow.recurses == Try.prog.recurses 4))=true:=by kernel_rfl
theorem k12:((Rows.scaleTrialsRow.named == Try.prog.varsNamed 4))=true:=by kernel_rfl
theorem k13:((Rows.scaleTrialsRow.maps == (Try.f4.params.toList++Rows.scaleTrialsSpec.plain.varTypes Try.prog).any (Try.prog.mapsRec ·)))=true:=by kernel_rfl
theorem k14:((Rows.scaleTrialsRow.ifaces == (Try.f4.params.toList++Rows.scaleTrialsSpec.plain.varTypes Try.prog).any (Try.prog.ifacesRec ·)))=true:=by kernel_rfl
theorem k15:((Rows.scaleTrialsRow.mapsOut == Try.prog.mapsAmong Try.f4.resultTypes.toList))=true:=by kernel_rfl
theorem k16:((Rows.scaleTrialsRow.loops == (Try.f4.params.toList++Rows.scaleTrialsSpec.plain.varTypes Try.prog).any (Try.prog.loopsFrom ·)))=true:=by kernel_rfl
theorem k17:((Rows.scaleTrialsRow.wideKeys == (Try.f4.params.toList++Rows.scaleTrialsSpec.plain.varTypes Try.prog++Try.f4.resultTypes.toList).any (Try.prog.wideKeysFrom ·)))=true:=by kernel_rfl
theorem k18:(Rows.scaleTrialsSpec.vars.all (Try.prog.varReadable ·))=true:=by kernel_rfl
theorem k19:(Try.f4.resultTypes.all (fun t=>Try.prog.readableRec t && decide (t<Try.prog.types.size)))=true:=by kernel_rfl
theorem k20:((Rows.scaleTrialsRow.ifacesOut == Try.f4.resultTypes.toList.any (Try.prog.ifacesRec ·)))=true:=by kernel_rfl
theorem k21:((Rows.scaleTrialsRow.loopsOut == Try.f4.resultTypes.toList.any (Try.prog.loopsFrom ·)))=true:=by kernel_rfl
theorem k22:((Rows.scaleTrialsRow.plainKeys == Try.prog.plainKeys))=true:=by kernel_rfl
theorem k23:(Rows.scaleTrialsRow.shortTexts.isNone)=true:=by kernel_rfl
theorem k24:(Try.prog.stopsHeard)=true:=by kernel_rfl
theorem k25:(Try.prog.mayEnter)=true:=by kernel_rfl
theorem k26:((Rows.scaleTrialsRow.lifted == Try.prog.liftsFinal))=true:=by kernel_rfl
theorem k27:((Try.prog.make == some Rows.scaleTrialsRow.make))=true:=by kernel_rfl
theorem k28:((Rows.scaleTrialsRow.kinds == (if Rows.scaleTrialsRow.domain.isEmpty then [] else Try.f4.params.toList.map fun t=>match Try.prog.underlying t with|some (.int k)=>some k|_=>none)))=true:=by kernel_rfl
theorem k29:((Rows.scaleTrialsRow.pinned == Rows.scaleTrialsRow.pinnedBy))=true:=by kernel_rfl
theorem k30:((Rows.scaleTrialsRow.veiled == (Try.f4.params.toList++Rows.scaleTrialsSpec.plain.varTypes Try.prog++Try.f4.resultTypes.toList).any (Try.prog.veiledRec ·)))=true:=by kernel_rfl
theorem k31:(Rows.scaleTrialsRow.veiledFits Try.prog Try.f4.params.toList (Try.f4.params.toList++Rows.scaleTrialsSpec.plain.varTypes Try.prog++Try.f4.resultTypes.toList))=true:=by kernel_rfl
end ParScaleTrials
end Go.Proofs.Ytiphpoheghdnfaa
