/- kreisellaw03.SlideMore answers true: whatever the track, the sled, what is changed and by how much are, in every world; no other condition. -/
import Derived.Test.YtdjneegacogklaaM2
import Derived.Test.YtdjneegacogklaaParSlideMore
import Derived.Test.YtdjneegacogklaaLawKit
import Derived.Test.YtdjneegacogklaaRows
import Derived.ProofKit
set_option linter.unusedSimpArgs false
set_option linter.unusedVariables false
namespace Go.Proofs.Ytdjneegacogklaa
open Go.Abs Go.ChangeShapes Go.WideShapes Go.ChangeAt Go.RowKit
theorem own : ownKnob Try.prog.godebug = none := by kernel_rfl
theorem laidOut : laidOutB Try.prog = true := by kernel_rfl
def ks : List (List QK) := [[.sl [.int .i64, .int .i64, .int .i64, .int .i64, .int .i64, .int .i64, .int .i64, .int .u8, .int .i64]], [.int .u8, .int .i64, .int .i64, .int .i64, .int .i64, .int .i64, .int .i64, .int .i64, .int .i64, .int .i64, .int .i64], [.int .u8], [.int .u16]]
noncomputable def PA0 : TypeId := (Try.f9.params.toList.drop 0).headD 0
noncomputable def PA1 : TypeId := (Try.f9.params.toList.drop 1).headD 0
noncomputable def PA2 : TypeId := (Try.f9.params.toList.drop 2).headD 0
noncomputable def PA3 : TypeId := (Try.f9.params.toList.drop 3).headD 0
theorem law (h : Heap) (avs : List AV) (_ : noOwn h) (hl : looks Try.prog h Try.f9.params.toList ks avs) : ACalls Try.prog 9 avs h (fun v _ => v = .bool true) := by
  have e : Try.f9.params.toList = [PA0, PA1, PA2, PA3] := by kernel_rfl
  rw [e] at hl
  simp only [looks, ks] at hl
  obtain ⟨_, _, rfl, h0, _, _, rfl, h1, _, _, rfl, h2, _, _, rfl, h3, rfl⟩ := hl
  rw [argAgg (t := PA0) (by kernel_rfl), argAgg (t := PA1) (by kernel_rfl), argOne (t := PA2) (by kernel_rfl), argOne (t := PA3) (by kernel_rfl)]
  simp only [lookL, QK.look] at h0 h1 h2 h3
  obtain ⟨_, _, rfl, ⟨id0, rows0, rfl, m0, o0, r0⟩, rfl⟩ := h0
  obtain ⟨l0, f0, n0, e0⟩ := rowsStr h rows0 r0
  rw [← n0]
  rw [f0] at o0
  have g0 := rd_of o0
  rw [e0] at g0
  obtain ⟨_, _, rfl, ⟨y1_0, rfl, py1_0, qy1_0⟩, _, _, rfl, ⟨y1_1, rfl, py1_1, qy1_1⟩, _, _, rfl, ⟨y1_2, rfl, py1_2, qy1_2⟩, _, _, rfl, ⟨y1_3, rfl, py1_3, qy1_3⟩, _, _, rfl, ⟨y1_4, rfl, py1_4, qy1_4⟩, _, _, rfl, ⟨y1_5, rfl, py1_5, qy1_5⟩, _, _, rfl, ⟨y1_6, rfl, py1_6, qy1_6⟩, _, _, rfl, ⟨y1_7, rfl, py1_7, qy1_7⟩, _, _, rfl, ⟨y1_8, rfl, py1_8, qy1_8⟩, _, _, rfl, ⟨y1_9, rfl, py1_9, qy1_9⟩, _, _, rfl, ⟨y1_10, rfl, py1_10, qy1_10⟩, rfl⟩ := h1
  obtain ⟨_, _, rfl, ⟨a2, rfl, p2, q2⟩, rfl⟩ := h2
  obtain ⟨_, _, rfl, ⟨a3, rfl, p3, q3⟩, rfl⟩ := h3
  exact c_lawSM h l0 ⟨y1_0, y1_1, y1_2, y1_3, y1_4, y1_5, y1_6, y1_7, y1_8, y1_9, y1_10⟩ a2 a3 id0 0 false g0 ⟨py1_0, qy1_0⟩ ⟨p2, q2⟩ ⟨p3, q3⟩

set_option maxRecDepth 100000 in
theorem lifted (os : Os) (started : os.Started) (H : Type) (enc : TypeId × Value → H) :
    ReturnsInHanded {} Try.checked os 9 .any (Rows.slideMoreSpec.pre6 enc Try.prog Try.f9 Rows.slideMoreRow.domain false) (Rows.slideMoreSpec.post enc Try.prog Try.f9 false true false false) := by
  refine returnsInHanded_of_change (C := Try.checked) own started (by kernel_rfl) Try.func9
    (ChangeSpec.witness6 (enc := enc) (C := Try.checked) false ⟨#[], #[.agg #[.slice none 0 0], .agg #[.int .u8 0, .int .i64 0, .int .i64 0, .int .i64 0, .int .i64 0, .int .i64 0, .int .i64 0, .int .i64 0, .int .i64 0, .int .i64 0, .int .i64 0], .int .u8 0, .int .u16 0], []⟩ 8 (by kernel_rfl) (by kernel_rfl) (by kernel_rfl) (by kernel_rfl)) ?_
  intro W base args ds gs before hval hW hcnd _
  exact law_step (n := 9) (ks := ks) (bt := Try.f9.resultTypes.toList.headD 0) laidOut (by kernel_rfl) (by kernel_rfl) (by kernel_rfl) (by kernel_rfl) rfl (by
    intro ds hds
    have e : Try.f9.params.toList.length = 4 := by kernel_rfl
    rw [e] at hds
    match ds, hds with
    | [a, b, c, d], _ => rfl) law W base args ds gs before hval hW

open ParSlideMore
set_option maxRecDepth 100000 in
theorem closed : joinedFacts Try.prog 9 Try.f9 Rows.slideMoreSpec Rows.slideMoreRow = true := by
  unfold joinedFacts
  exact band (band (band (band (band (band (band (band (band (band (band (band (band (band (band (band (band (band (band (band (band (band (band (band (band (band (band (band (band (band (band (k0) k1) k2) k3) k4) k5) k6) k7) k8) k9) k10) k11) k12) k13) k14) k15) k16) k17) k18) k19) k20) k21) k22) k23) k24) k25) k26) k27) k28) k29) k30) k31

theorem over : Rows.SlideMoreSaid :=
  OpenClaim.holds_of_wide 9 Try.f9 rfl rfl rfl rfl rfl rfl rfl ⟨rfl, rfl, rfl, rfl, rfl⟩ rfl rfl rfl rfl rfl (by kernel_rfl) Try.func9 closed
    (of_decide_eq_true (by kernel_rfl)) (by unfold Func.isWrapper; first | (rw [if_pos (by decide +kernel)]; kernel_rfl) | (rw [if_neg (by decide +kernel)]; exact ⟨rfl, rfl⟩))
    (fun os started H enc _ => lifted os started H enc)
theorem proved : Rows.SlideMoreSaid := over
end Go.Proofs.Ytdjneegacogklaa
