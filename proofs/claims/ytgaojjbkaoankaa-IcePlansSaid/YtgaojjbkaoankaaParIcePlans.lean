/- Facts of the row IcePlans, reckoned one by one. -/
import Derived.Test.YtgaojjbkaoankaaRows
import Derived.ProofKit
set_option linter.unusedSimpArgs false
set_option linter.unusedVariables false
namespace Go.Proofs.Ytgaojjbkaoankaa
open Go.ChangeShapes Go.WideShapes Go.ChangeAt
namespace ParIcePlans
theorem band {a b:Bool} (ha:a=true) (hb:b=true):(a && b)=true:=by rw [ha,hb];rfl
theorem k0:(Rows.icePlansRow.wf (OpenSpec.ofChange Rows.icePlansSpec))=true:=by kernel_rfl
theorem k1:(laidOutB Try.prog)=true:=by kernel_rfl
theorem k2:(mapsRowed Try.prog)=true:=by kernel_rfl
theorem k3:(Try.f3.params.all (Try.prog.readableRec ·))=true:=by kernel_rfl
theorem k4:(namedTie Try.prog Rows.icePlansRow.named Rows.icePlansSpec.vars)=true:=by kernel_rfl
theorem k5:((Rows.icePlansRow.stops == []))=true:=by kernel_rfl
theorem k6:((Try.prog.stops == []))=true:=by kernel_rfl
theorem k7:((Rows.icePlansRow.knobs == []))=true:=by kernel_rfl
theorem k8:((Try.prog.stopKnobs == []))=true:=by kernel_rfl
theorem k9:((Rows.icePlansRow.inPlace == Try.prog.inPlace 3))=true:=by kernel_rfl
theorem k10:((Rows.icePlansRow.unfollowed == Try.prog.unfollowed 3))=true:=by kernel_rfl
theorem k11:((Rows.icePlansRow.recurses == Try.prog.recurses 3))=true:=by kernel_rfl
theorem k12:((Rows.icePlansRow.named == Try.prog.varsNamed 3))=true:=by kernel_rfl
theorem k13:((Rows.icePlansRow.maps == (Try.f3.params.toList++Rows.icePlansSpec.plain.varTypes Try.prog).any (Try.prog.mapsRec ·)))=true:=by kernel_rfl
theorem k14:((Rows.icePlansRow.ifaces == (Try.f3.params.toList++Rows.icePlansSpec.plain.varTypes Try.prog).any (Try.prog.ifacesRec ·)))=true:=by kernel_rfl
theorem k15:((Rows.icePlansRow.mapsOut == Try.prog.mapsAmong Try.f3.resultTypes.toList))=true:=by kernel_rfl
theorem k16:((Rows.icePlansRow.loops == (Try.f3.params.toList++Rows.icePlansSpec.plain.varTypes Try.prog).any (Try.prog.loopsFrom ·)))=true:=by kernel_rfl
theorem k17:((Rows.icePlansRow.wideKeys == (Try.f3.params.toList++Rows.icePlansSpec.plain.varTypes Try.prog++Try.f3.resultTypes.toList).any (Try.prog.wideKeysFrom ·)))=true:=by kernel_rfl
theorem k18:(Rows.icePlansSpec.vars.all (Try.prog.varReadable ·))=true:=by kernel_rfl
theorem k19:(Try.f3.resultTypes.all (fun t=>Try.prog.readableRec t && decide (t<Try.prog.types.size)))=true:=by kernel_rfl
theorem k20:((Rows.icePlansRow.ifacesOut == Try.f3.resultTypes.toList.any (Try.prog.ifacesRec ·)))=true:=by kernel_rfl
theorem k21:((Rows.icePlansRow.loopsOut == Try.f3.resultTypes.toList.any (Try.prog.loopsFrom ·)))=true:=by kernel_rfl
theorem k22:((Rows.icePlansRow.plainKeys == Try.prog.plainKeys))=true:=by kernel_rfl
theorem k23:(Rows.icePlansRow.shortTexts.isNone)=true:=by kernel_rfl
theorem k24:(Try.prog.stopsHeard)=true:=by kernel_rfl
theorem k25:(Try.prog.mayEnter)=true:=by kernel_rfl
theorem k26:((Rows.icePlansRow.lifted == Try.prog.liftsFinal))=true:=by kernel_rfl
theorem k27:((Try.prog.make == some Rows.icePlansRow.make))=true:=by kernel_rfl
theorem k28:((Rows.icePlansRow.kinds == (if Rows.icePlansRow.domain.isEmpty then [] else Try.f3.params.toList.map fun t=>match Try.prog.underlying t with|some (.int k)=>some k|_=>none)))=true:=by kernel_rfl
theorem k29:((Rows.icePlansRow.pinned == Rows.icePlansRow.pinnedBy))=true:=by kernel_rfl
theorem k30:((Rows.icePlansRow.veiled == (Try.f3.params.toList++Rows.icePlansSpec.plain.varTypes Try.prog++Try.f3.resultTypes.toList).any (Try.prog.veiledRec ·)))=true:=by kernel_rfl
theorem k31:(Rows.icePlansRow.veiledFits Try.prog Try.f3.params.toList (Try.f3.params.toList++Rows.icePlansSpec.plain.varTypes Try.prog++Try.f3.resultTypes.toList))=true:=by kernel_rfl
end ParIcePlans
end Go.Proofs.Ytgaojjbkaoankaa
