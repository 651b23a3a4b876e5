/- kreisellaw04.ScaleExamples answers true: for every input (it has none), and it changes nothing. No other condition. -/
import Derived.Test.YthfmnemhgnipcaaOraSc3
import Derived.Test.YthfmnemhgnipcaaRows
import Derived.ProofKit
set_option linter.unusedSimpArgs false
set_option linter.unusedVariables false
namespace Go.Proofs.Ythfmnemhgnipcaa
open Go.Abs Go.ChangeShapes Go.WideShapes Go.ChangeAt Go.RowKit
theorem own:ownKnob Try.prog.godebug=none:=by kernel_rfl
theorem laidOut:laidOutB Try.prog=true:=by kernel_rfl
theorem law (h:Heap) (avs:List AV) (_:noOwn h) (hl:looks Try.prog h Try.f3.params.toList [] avs):ACalls Try.prog 3 avs h (fun v _=>v=.bool true):=by
  have e:Try.f3.params.toList=[]:=by kernel_rfl
  rw [e] at hl
  have:avs=[]:=hl
  subst this
  exact (Try.true3 h).mono fun _ _ h=>h.1
set_option maxRecDepth 100000 in
theorem lifted (os:Os) (started:os.Started) (H:Type) (enc:TypeId × Value→H) :
    ReturnsInHanded {} Try.checked os 3 .any (Rows.scaleExamplesSpec.pre6 enc Try.prog Try.f3 Rows.scaleExamplesRow.domain false) (Rows.scaleExamplesSpec.post enc Try.prog Try.f3 false true false false):=by
  refine returnsInHanded_of_change (C:=Try.checked) own started (by kernel_rfl) Try.func3
    (ChangeSpec.witness6 (enc:=enc) (C:=Try.checked) false ⟨#[],#[],[]⟩ 8 (by kernel_rfl) (by kernel_rfl) (by kernel_rfl) (by kernel_rfl)) ?_
  intro W base args ds gs before hval hW hcnd _
  exact law_step (n:=9) (ks:=[]) (bt:=Try.f3.resultTypes.toList.headD 0) laidOut (by kernel_rfl) (by kernel_rfl) (by kernel_rfl) (by kernel_rfl) rfl (by
    intro ds hds
    have e:Try.f3.params.toList.length=0:=by kernel_rfl
    rw [e] at hds
    match ds,hds with
    | [],_=>rfl) law W base args ds gs before hval hW
theorem over:Rows.ScaleExamplesSaid :=
  OpenClaim.holds_of_wide 3 Try.f3 rfl rfl rfl rfl rfl rfl rfl ⟨rfl,rfl,rfl,rfl,rfl⟩ rfl rfl rfl rfl rfl (by kernel_rfl) Try.func3 (by kernel_rfl)
    (of_decide_eq_true (by kernel_rfl)) (by unfold Func.isWrapper;first|(rw [if_pos (by decide +kernel)];kernel_rfl)|(rw [if_neg (by decide +kernel)];exact⟨rfl,rfl⟩))
    (fun os started H enc _=>lifted os started H enc)
theorem proved:Rows.ScaleExamplesSaid:=over
end Go.Proofs.Ythfmnemhgnipcaa
