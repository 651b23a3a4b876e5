/- Facts of the row IceLeast, reckoned one by one. -/
import Derived.Test.YtbfihdpmphlckaaRows
import Derived.ProofKit
set_option linter.unusedSimpArgs false
set_option linter.unusedVariables false
namespace Go.Proofs.Ytbfihdpmphlckaa
open Go.ChangeShapes Go.WideShapes Go.ChangeAt
namespace ParIceLeast
theorem band {a b : Bool} (ha : a=true) (hb : b=true) : (a && b)=true:=by rw [ha,hb]; rfl
theorem k0 : (Rows.iceLeastRow.wf (OpenSpec.ofChange Rows.iceLeastSpec))=true:=by kernel_rfl
theorem k1 : (laidOutB Try.prog)=true:=by kernel_rfl
theorem k2 : (mapsRowed Try.prog)=true:=by kernel_rfl
theorem k3 : (Try.f4.params.all (Try.prog.readableRec ·))=true:=by kernel_rfl
theorem k4 : (namedTie Try.prog Rows.iceLeastRow.named Rows.iceLeastSpec.vars)=true:=by kernel_rfl
theorem k5 : ((Rows.iceLeastRow.stops == []))=true:=by kernel_rfl
theorem k6 : ((Try.prog.stops == []))=true:=by kernel_rfl
theorem k7 : ((Rows.iceLeastRow.knobs == []))=true:=by kernel_rfl
theorem k8 : ((Try.prog.stopKnobs == []))=true:=by kernel_rfl
theorem k9 : ((Rows.iceLeastRow.inPlace == Try.prog.inPlace 4))=true:=by kernel_rfl
theorem k10 : ((Rows.iceLeastRow.unfollowed == Try.prog.unfollowed 4))=true:=by kernel_rfl
theorem k11 : ((Rows.iceLeastRow.recurses == Try.prog.recurses 4))=true:=by kernel_rfl
theorem k12 : ((Rows.iceLeastRow.named == Try.prog.varsNamed 4))=true:=by kernel_rfl
theorem k13 : ((Rows.iceLeastRow.maps == (Try.f4.params.toList++Rows.iceLeastSpec.plain.varTypes Try.prog).any (Try.prog.mapsRec ·)))=true:=by kernel_rfl
theorem k14 : ((Rows.iceLeastRow.ifaces == (Try.f4.params.toList++Rows.iceLeastSpec.plain.varTypes Try.prog).any (Try.prog.ifacesRec ·)))=true:=by kernel_rfl
theorem k15 : ((Rows.iceLeastRow.mapsOut == Try.prog.mapsAmong Try.f4.resultTypes.toList))=true:=by kernel_rfl
theorem k16 : ((Rows.iceLeastRow.loops == (Try.f4.params.toList++Rows.iceLeastSpec.plain.varTypes Try.prog).any (Try.prog.loopsFrom ·)))=true:=by kernel_rfl
theorem k17 : ((Rows.iceLeastRow.wideKeys == (Try.f4.params.toList++Rows.iceLeastSpec.plain.varTypes Try.prog++Try.f4.resultTypes.toList).any (Try.prog.wideKeysFrom ·)))=true:=by kernel_rfl
theorem k18 : (Rows.iceLeastSpec.vars.all (Try.prog.varReadable ·))=true:=by kernel_rfl
theorem k19 : (Try.f4.resultTypes.all (fun t=>Try.prog.readableRec t && decide (t < Try.prog.types.size)))=true:=by kernel_rfl
theorem k20 : ((Rows.iceLeastRow.ifacesOut == Try.f4.resultTypes.toList.any (Try.prog.ifacesRec ·)))=true:=by kernel_rfl
theorem k21 : ((Rows.iceLeastRow.loopsOut == Try.f4.resultTypes.toList.any (Try.prog.loopsFrom ·)))=true:=by kernel_rfl
theorem k22 : ((Rows.iceLeastRow.plainKeys == Try.prog.plainKeys))=true:=by kernel_rfl
theorem k23 : (Rows.iceLeastRow.shortTexts.isNone)=true:=by kernel_rfl
theorem k24 : (Try.prog.stopsHeard)=true:=by kernel_rfl
theorem k25 : (Try.prog.mayEnter)=true:=by kernel_rfl
theorem k26 : ((Rows.iceLeastRow.lifted == Try.prog.liftsFinal))=true:=by kernel_rfl
theorem k27 : ((Try.prog.make == some Rows.iceLeastRow.make))=true:=by kernel_rfl
theorem k28 : ((Rows.iceLeastRow.kinds == (if Rows.iceLeastRow.domain.isEmpty then [] else Try.f4.params.toList.map fun t=>match Try.prog.underlying t with | some (.int k)=>some k | _=>none)))=true:=by kernel_rfl
theorem k29 : ((Rows.iceLeastRow.pinned == Rows.iceLeastRow.pinnedBy))=true:=by kernel_rfl
theorem k30 : ((Rows.iceLeastRow.veiled == (Try.f4.params.toList++Rows.iceLeastSpec.plain.varTypes Try.prog++Try.f4.resultTypes.toList).any (Try.prog.veiledRec ·)))=true:=by kernel_rfl
theorem k31 : (Rows.iceLeastRow.veiledFits Try.prog Try.f4.params.toList (Try.f4.params.toList++Rows.iceLeastSpec.plain.varTypes Try.prog++Try.f4.resultTypes.toList))=true:=by kernel_rfl
end ParIceLeast
end Go.Proofs.Ytbfihdpmphlckaa
