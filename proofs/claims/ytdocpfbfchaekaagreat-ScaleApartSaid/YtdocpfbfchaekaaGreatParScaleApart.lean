/- Facts of the row ScaleApart, reckoned one by one. -/
import Derived.Test.YtdocpfbfchaekaaGreatRows
import Derived.ProofKit
set_option linter.unusedSimpArgs false
set_option linter.unusedVariables false
namespace Go.Proofs.YtdocpfbfchaekaaGreat
open Go.ChangeShapes Go.WideShapes Go.ChangeAt
namespace ParScaleApart
theorem band {a b:Bool} (ha:a=true) (hb:b=true):(a && b)=true:=by rw [ha,hb];rfl
theorem k0:(Rows.scaleApartRow.wf (OpenSpec.ofChange Rows.scaleApartSpec))=true:=by kernel_rfl
theorem k1:(laidOutB Tryz.prog)=true:=by kernel_rfl
theorem k2:(mapsRowed Tryz.prog)=true:=by kernel_rfl
theorem k3:(Tryz.f10.params.all (Tryz.prog.readableRec ·))=true:=by kernel_rfl
theorem k4:(namedTie Tryz.prog Rows.scaleApartRow.named Rows.scaleApartSpec.vars)=true:=by kernel_rfl
theorem k5:((Rows.scaleApartRow.stops == []))=true:=by kernel_rfl
theorem k6:((Tryz.prog.stops == []))=true:=by kernel_rfl
theorem k7:((Rows.scaleApartRow.knobs == []))=true:=by kernel_rfl
theorem k8:((Tryz.prog.stopKnobs == []))=true:=by kernel_rfl
theorem k9:((Rows.scaleApartRow.inPlace == Tryz.prog.inPlace 10))=true:=by kernel_rfl
theorem k10:((Rows.scaleApartRow.unfollowed == Tryz.prog.unfollowed 10))=true:=by kernel_rfl
theorem k11:((Rows.scaleApartRow.recurses == Tryz.prog.recurses 10))=true:=by kernel_rfl
theorem k12:((Rows.scaleApartRow.named == Tryz.prog.varsNamed 10))=true:=by kernel_rfl
theorem k13:((Rows.scaleApartRow.maps == (Tryz.f10.params.toList++Rows.scaleApartSpec.plain.varTypes Tryz.prog).any (Tryz.prog.mapsRec ·)))=true:=by kernel_rfl
theorem k14:((Rows.scaleApartRow.ifaces == (Tryz.f10.params.toList++Rows.scaleApartSpec.plain.varTypes Tryz.prog).any (Tryz.prog.ifacesRec ·)))=true:=by kernel_rfl
theorem k15:((Rows.scaleApartRow.mapsOut == Tryz.prog.mapsAmong Tryz.f10.resultTypes.toList))=true:=by kernel_rfl
theorem k16:((Rows.scaleApartRow.loops == (Tryz.f10.params.toList++Rows.scaleApartSpec.plain.varTypes Tryz.prog).any (Tryz.prog.loopsFrom ·)))=true:=by kernel_rfl
theorem k17:((Rows.scaleApartRow.wideKeys == (Tryz.f10.params.toList++Rows.scaleApartSpec.plain.varTypes Tryz.prog++Tryz.f10.resultTypes.toList).any (Tryz.prog.wideKeysFrom ·)))=true:=by kernel_rfl
theorem k18:(Rows.scaleApartSpec.vars.all (Tryz.prog.varReadable ·))=true:=by kernel_rfl
theorem k19:(Tryz.f10.resultTypes.all (fun t=>Tryz.prog.readableRec t && decide (t<Tryz.prog.types.size)))=true:=by kernel_rfl
theorem k20:((Rows.scaleApartRow.ifacesOut == Tryz.f10.resultTypes.toList.any (Tryz.prog.ifacesRec ·)))=true:=by kernel_rfl
theorem k21:((Rows.scaleApartRow.loopsOut == Tryz.f10.resultTypes.toList.any (Tryz.prog.loopsFrom ·)))=true:=by kernel_rfl
theorem k22:((Rows.scaleApartRow.plainKeys == Tryz.prog.plainKeys))=true:=by kernel_rfl
theorem k23:(Rows.scaleApartRow.shortTexts.isNone)=true:=by kernel_rfl
theorem k24:(Tryz.prog.stopsHeard)=true:=by kernel_rfl
theorem k25:(Tryz.prog.mayEnter)=true:=by kernel_rfl
theorem k26:((Rows.scaleApartRow.lifted == Tryz.prog.liftsFinal))=true:=by kernel_rfl
theorem k27:((Tryz.prog.make == some Rows.scaleApartRow.make))=true:=by kernel_rfl
theorem k28:((Rows.scaleApartRow.kinds == (if Rows.scaleApartRow.domain.isEmpty then [] else Tryz.f10.params.toList.map fun t=>match Tryz.prog.underlying t with|some (.int k)=>some k|_=>none)))=true:=by kernel_rfl
theorem k29:((Rows.scaleApartRow.pinned == Rows.scaleApartRow.pinnedBy))=true:=by kernel_rfl
theorem k30:((Rows.scaleApartRow.veiled == (Tryz.f10.params.toList++Rows.scaleApartSpec.plain.varTypes Tryz.prog++Tryz.f10.resultTypes.toList).any (Tryz.prog.veiledRec ·)))=true:=by kernel_rfl
theorem k31:(Rows.scaleApartRow.veiledFits Tryz.prog Tryz.f10.params.toList (Tryz.f10.params.toList++Rows.scaleApartSpec.plain.varTypes Tryz.prog++Tryz.f10.resultTypes.toList))=true:=by kernel_rfl
end ParScaleApart
end Go.Proofs.YtdocpfbfchaekaaGreat
