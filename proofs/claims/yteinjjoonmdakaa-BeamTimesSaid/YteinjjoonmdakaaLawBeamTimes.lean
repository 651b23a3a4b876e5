/- kreisellaw05.BeamTimes answers true: when a message arrives, and between which times, and the least time a sled needs, are as the document says, or the errors; the line stays; no other condition. -/
import Derived.Test.YteinjjoonmdakaaBD
import Derived.Test.YteinjjoonmdakaaParBeamTimes
import Derived.Test.YteinjjoonmdakaaLawKitL
import Derived.Test.YteinjjoonmdakaaRows
import Derived.ProofKit
set_option linter.unusedSimpArgs false
set_option linter.unusedVariables false
namespace Go.Proofs.Yteinjjoonmdakaa
open Go.Abs Go.ChangeShapes Go.WideShapes Go.ChangeAt Go.RowKit
theorem own : ownKnob Try.prog.godebug = none := by kernel_rfl
theorem laidOut : laidOutB Try.prog = true := by kernel_rfl
def ks : List (List QK) := [[.sl [.int .i64, .int .i64, .int .i64, .int .i64, .int .i64, .int .i64, .int .i64, .int .u8, .int .i64], .int .i64, .sl [.int .i64, .sl [.int .i64, .int .i64, .int .i64]], .sl [.int .i64, .int .i64, .int .i64, .int .i64], .int .i64, .int .i64, .int .i64], [.int .i64, .int .i64], [.int .i64], [.int .i64], [.int .i64]]
noncomputable def PA0 : TypeId := (Try.f3.params.toList.drop 0).headD 0
noncomputable def PA1 : TypeId := (Try.f3.params.toList.drop 1).headD 0
noncomputable def PA2 : TypeId := (Try.f3.params.toList.drop 2).headD 0
noncomputable def PA3 : TypeId := (Try.f3.params.toList.drop 3).headD 0
noncomputable def PA4 : TypeId := (Try.f3.params.toList.drop 4).headD 0
theorem law (h : Heap) (avs : List AV) (_ : noOwn h) (hl : looks Try.prog h Try.f3.params.toList ks avs) : ACalls Try.prog 3 avs h (fun v _ => v = .bool true) := by
  have e : Try.f3.params.toList = [PA0, PA1, PA2, PA3, PA4] := by kernel_rfl
  rw [e] at hl
  simp only [looks, ks] at hl
  obtain ⟨_, _, rfl, h0, _, _, rfl, h1, _, _, rfl, h2, _, _, rfl, h3, _, _, rfl, h4, rfl⟩ := hl
  rw [argAgg (t := PA0) (by kernel_rfl), argAgg (t := PA1) (by kernel_rfl), argOne (t := PA2) (by kernel_rfl), argOne (t := PA3) (by kernel_rfl), argOne (t := PA4) (by kernel_rfl)]
  simp only [lookL, QK.look] at h1 h2 h3 h4
  obtain ⟨x0, p0, rfl, g0⟩ := line_at h0
  obtain ⟨_, _, rfl, ⟨a1, rfl, p1, q1⟩, _, _, rfl, ⟨b1, rfl, r1, s1⟩, rfl⟩ := h1
  obtain ⟨_, _, rfl, ⟨a2, rfl, p2, q2⟩, rfl⟩ := h2
  obtain ⟨_, _, rfl, ⟨a3, rfl, p3, q3⟩, rfl⟩ := h3
  obtain ⟨_, _, rfl, ⟨a4, rfl, p4, q4⟩, rfl⟩ := h4
  exact c_lawBT h x0 p0 a1 b1 a2 a3 a4 g0

set_option maxRecDepth 100000 in
theorem lifted (os : Os) (started : os.Started) (H : Type) (enc : TypeId × Value → H) :
    ReturnsInHanded {} Try.checked os 3 .any (Rows.beamTimesSpec.pre6 enc Try.prog Try.f3 Rows.beamTimesRow.domain false) (Rows.beamTimesSpec.post enc Try.prog Try.f3 false true false false) := by
  refine returnsInHanded_of_change (C := Try.checked) own started (by kernel_rfl) Try.func3
    (ChangeSpec.witness6 (enc := enc) (C := Try.checked) false ⟨#[], #[.agg #[.slice none 0 0, .int .i64 0, .slice none 0 0, .slice none 0 0, .int .i64 0, .int .i64 0, .int .i64 0], .agg #[.int .i64 0, .int .i64 0], .int .i64 0, .int .i64 0, .int .i64 0], []⟩ 8 (by kernel_rfl) (by kernel_rfl) (by kernel_rfl) (by kernel_rfl)) ?_
  intro W base args ds gs before hval hW hcnd _
  exact law_step (n := 9) (ks := ks) (bt := Try.f3.resultTypes.toList.headD 0) laidOut (by kernel_rfl) (by kernel_rfl) (by kernel_rfl) (by kernel_rfl) rfl (by
    intro ds hds
    have e : Try.f3.params.toList.length = 5 := by kernel_rfl
    rw [e] at hds
    match ds, hds with
    | [a, b, c, d, e], _ => rfl) law W base args ds gs before hval hW

open ParBeamTimes
set_option maxRecDepth 100000 in
theorem closed : joinedFacts Try.prog 3 Try.f3 Rows.beamTimesSpec Rows.beamTimesRow = true := by
  unfold joinedFacts
  exact band (band (band (band (band (band (band (band (band (band (band (band (band (band (band (band (band (band (band (band (band (band (band (band (band (band (band (band (band (band (band (k0) k1) k2) k3) k4) k5) k6) k7) k8) k9) k10) k11) k12) k13) k14) k15) k16) k17) k18) k19) k20) k21) k22) k23) k24) k25) k26) k27) k28) k29) k30) k31

theorem over : Rows.BeamTimesSaid :=
  OpenClaim.holds_of_wide 3 Try.f3 rfl rfl rfl rfl rfl rfl rfl ⟨rfl, rfl, rfl, rfl, rfl⟩ rfl rfl rfl rfl rfl (by kernel_rfl) Try.func3 closed
    (of_decide_eq_true (by kernel_rfl)) (by unfold Func.isWrapper; first | (rw [if_pos (by decide +kernel)]; kernel_rfl) | (rw [if_neg (by decide +kernel)]; exact ⟨rfl, rfl⟩))
    (fun os started H enc _ => lifted os started H enc)
theorem proved : Rows.BeamTimesSaid := over
end Go.Proofs.Yteinjjoonmdakaa
