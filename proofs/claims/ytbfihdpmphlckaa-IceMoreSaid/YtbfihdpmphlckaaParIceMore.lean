/- Facts of the row IceMore, reckoned one by one. -/
import Derived.Test.YtbfihdpmphlckaaRows
import Derived.ProofKit
set_option linter.unusedSimpArgs false
set_option linter.unusedVariables false
namespace Go.Proofs.Ytbfihdpmphlckaa
open Go.ChangeShapes Go.WideShapes Go.ChangeAt
namespace ParIceMore
theorem band {a b : Bool} (ha : a=true) (hb : b=true) : (a && b)=true:=by rw [ha,hb]; rfl
theorem k0 : (Rows.iceMoreRow.wf (OpenSpec.ofChange Rows.iceMoreSpec))=true:=by kernel_rfl
theorem k1 : (laidOutB Try.prog)=true:=by kernel_rfl
theorem k2 : (mapsRowed Try.prog)=true:=by kernel_rfl
theorem k3 : (Try.f7.params.all (Try.prog.readableRec ·))=true:=by kernel_rfl
theorem k4 : (namedTie Try.prog Rows.iceMoreRow.named Rows.iceMoreSpec.vars)=true:=by kernel_rfl
theorem k5 : ((Rows.iceMoreRow.stops == []))=true:=by kernel_rfl
theorem k6 : ((Try.prog.stops == []))=true:=by kernel_rfl
theorem k7 : ((Rows.iceMoreRow.knobs == []))=true:=by kernel_rfl
theorem k8 : ((Try.prog.stopKnobs == []))=true:=by kernel_rfl
theorem k9 : ((Rows.iceMoreRow.inPlace == Try.prog.inPlace 7))=true:=by kernel_rfl
theorem k10 : ((Rows.iceMoreRow.unfollowed == Try.prog.unfollowed 7))=true:=by kernel_rfl
theorem k11 : ((Rows.iceMoreRow.recurses == Try.prog.recurses 7))=true:=by kernel_rfl
theorem k12 : ((Rows.iceMoreRow.named == Try.prog.varsNamed 7))=true:=by kernel_rfl
theorem k13 : ((Rows.iceMoreRow.maps == (Try.f7.params.toList++Rows.iceMoreSpec.plain.varTypes Try.prog).any (Try.prog.mapsRec ·)))=true:=by kernel_rfl
theorem k14 : ((Rows.iceMoreRow.ifaces == (Try.f7.params.toList++Rows.iceMoreSpec.plain.varTypes Try.prog).any (Try.prog.ifacesRec ·)))=true:=by kernel_rfl
theorem k15 : ((Rows.iceMoreRow.mapsOut == Try.prog.mapsAmong Try.f7.resultTypes.toList))=true:=by kernel_rfl
theorem k16 : ((Rows.iceMoreRow.loops == (Try.f7.params.toList++Rows.iceMoreSpec.plain.varTypes Try.prog).any (Try.prog.loopsFrom ·)))=true:=by kernel_rfl
theorem k17 : ((Rows.iceMoreRow.wideKeys == (Try.f7.params.toList++Rows.iceMoreSpec.plain.varTypes Try.prog++Try.f7.resultTypes.toList).any (Try.prog.wideKeysFrom ·)))=true:=by kernel_rfl
theorem k18 : (Rows.iceMoreSpec.vars.all (Try.prog.varReadable ·))=true:=by kernel_rfl
theorem k19 : (Try.f7.resultTypes.all (fun t=>Try.prog.readableRec t && decide (t < Try.prog.types.size)))=true:=by kernel_rfl
theorem k20 : ((Rows.iceMoreRow.ifacesOut == Try.f7.resultTypes.toList.any (Try.prog.ifacesRec ·)))=true:=by kernel_rfl
theorem k21 : ((Rows.iceMoreRow.loopsOut == Try.f7.resultTypes.toList.any (Try.prog.loopsFrom ·)))=true:=by kernel_rfl
theorem k22 : ((Rows.iceMoreRow.plainKeys == Try.prog.plainKeys))=true:=by kernel_rfl
theorem k23 : (Rows.iceMoreRow.shortTexts.isNone)=true:=by kernel_rfl
theorem k24 : (Try.prog.stopsHeard)=true:=by kernel_rfl
theorem k25 : (Try.prog.mayEnter)=true:=by kernel_rfl
theorem k26 : ((Rows.iceMoreRow.lifted == Try.prog.liftsFinal))=true:=by kernel_rfl
theorem k27 : ((Try.prog.make == some Rows.iceMoreRow.make))=true:=by kernel_rfl
theorem k28 : ((Rows.iceMoreRow.kinds == (if Rows.iceMoreRow.domain.isEmpty then [] else Try.f7.params.toList.map fun t=>match Try.prog.underlying t with | some (.int k)=>some k | _=>none)))=true:=by kernel_rfl
theorem k29 : ((Rows.iceMoreRow.pinned == Rows.iceMoreRow.pinnedBy))=true:=by kernel_rfl
theorem k30 : ((Rows.iceMoreRow.veiled == (Try.f7.params.toList++Rows.iceMoreSpec.plain.varTypes Try.prog++Try.f7.resultTypes.toList).any (Try.prog.veiledRec ·)))=true:=by kernel_rfl
theorem k31 : (Rows.iceMoreRow.veiledFits Try.prog Try.f7.params.toList (Try.f7.params.toList++Rows.iceMoreSpec.plain.varTypes Try.prog++Try.f7.resultTypes.toList))=true:=by kernel_rfl
end ParIceMore
end Go.Proofs.Ytbfihdpmphlckaa
