/- kreisellaw03.SlideExamples answers true: for every input (it has none), and it changes nothing. No other condition. -/
import Derived.Test.YtdjneegacogklaaRunSlideExamples
import Derived.Test.YtdjneegacogklaaRows
import Derived.ProofKit
set_option linter.unusedSimpArgs false
set_option linter.unusedVariables false
namespace Go.Proofs.Ytdjneegacogklaa
open Go.Abs Go.ChangeShapes Go.WideShapes Go.ChangeAt Go.RowKit
theorem own : ownKnob Try.prog.godebug = none := by kernel_rfl
theorem laidOut : laidOutB Try.prog = true := by kernel_rfl
theorem law (h : Heap) (avs : List AV) (_ : noOwn h) (hl : looks Try.prog h Try.f5.params.toList [] avs) : ACalls Try.prog 5 avs h (fun v _ => v = .bool true) := by
  have e : Try.f5.params.toList = [] := by kernel_rfl
  rw [e] at hl
  have : avs = [] := hl
  subst this
  exact (Try.true5 h).mono fun _ _ h => h.1
set_option maxRecDepth 100000 in
theorem lifted (os : Os) (started : os.Started) (H : Type) (enc : TypeId × Value → H) :
    ReturnsInHanded {} Try.checked os 5 .any (Rows.slideExamplesSpec.pre6 enc Try.prog Try.f5 Rows.slideExamplesRow.domain false) (Rows.slideExamplesSpec.post enc Try.prog Try.f5 false true false false) := by
  refine returnsInHanded_of_change (C := Try.checked) own started (by kernel_rfl) Try.func5
    (ChangeSpec.witness6 (enc := enc) (C := Try.checked) false ⟨#[], #[], []⟩ 8 (by kernel_rfl) (by kernel_rfl) (by kernel_rfl) (by kernel_rfl)) ?_
  intro W base args ds gs before hval hW hcnd _
  exact law_step (n := 9) (ks := []) (bt := Try.f5.resultTypes.toList.headD 0) laidOut (by kernel_rfl) (by kernel_rfl) (by kernel_rfl) (by kernel_rfl) rfl (by
    intro ds hds
    have e : Try.f5.params.toList.length = 0 := by kernel_rfl
    rw [e] at hds
    match ds, hds with
    | [], _ => rfl) law W base args ds gs before hval hW
theorem over : Rows.SlideExamplesSaid :=
  OpenClaim.holds_of_wide 5 Try.f5 rfl rfl rfl rfl rfl rfl rfl ⟨rfl, rfl, rfl, rfl, rfl⟩ rfl rfl rfl rfl rfl (by kernel_rfl) Try.func5 (by kernel_rfl)
    (of_decide_eq_true (by kernel_rfl)) (by unfold Func.isWrapper; first | (rw [if_pos (by decide +kernel)]; kernel_rfl) | (rw [if_neg (by decide +kernel)]; exact ⟨rfl, rfl⟩))
    (fun os started H enc _ => lifted os started H enc)
theorem proved : Rows.SlideExamplesSaid := over
end Go.Proofs.Ytdjneegacogklaa
