/- kreisellaw01.TrackNarrows answers true: what measures leave of a track, and which of them make no difference, or the errors, are the reference's, and track and measures stay; no other condition. -/
import Derived.Test.YtjagjbelmonpmaaQB
import Derived.Test.YtjagjbelmonpmaaParTrackNarrows
import Derived.Test.YtjagjbelmonpmaaLawKitB
import Derived.Test.YtjagjbelmonpmaaRows
import Derived.ProofKit
set_option linter.unusedSimpArgs false
set_option linter.unusedVariables false
namespace Go.Proofs.Ytjagjbelmonpmaa
open Go.Abs Go.ChangeShapes Go.WideShapes Go.ChangeAt Go.RowKit
theorem own : ownKnob Try.prog.godebug = none := by kernel_rfl
theorem laidOut : laidOutB Try.prog = true := by kernel_rfl
def ks : List (List QK) := [[.sl [.int .i64, .int .i64, .int .i64, .int .i64, .int .i64, .int .i64, .int .i64, .int .u8, .int .i64]], [.sl [.int .u8, .int .i64, .int .i64, .int .i64, .int .i64]]]
noncomputable def PA0 : TypeId := (Try.f4.params.toList.drop 0).headD 0
noncomputable def PA1 : TypeId := (Try.f4.params.toList.drop 1).headD 0
theorem law (h : Heap) (avs : List AV) (_ : noOwn h) (hl : looks Try.prog h Try.f4.params.toList ks avs) : ACalls Try.prog 4 avs h (fun v _ => v = .bool true) := by
  have e : Try.f4.params.toList = [PA0, PA1] := by kernel_rfl
  rw [e] at hl
  simp only [looks, ks] at hl
  obtain ⟨_, _, rfl, h0, _, _, rfl, h1, rfl⟩ := hl
  rw [argAgg (t := PA0) (by kernel_rfl), argOne (t := PA1) (by kernel_rfl)]
  simp only [lookL, QK.look] at h0 h1
  obtain ⟨_, _, rfl, ⟨id0, rows0, rfl, m0, o0, r0⟩, rfl⟩ := h0
  obtain ⟨l0, f0, n0, e0⟩ := rowsStr h rows0 r0
  rw [← n0]
  rw [f0] at o0
  have g0 := rd_of o0
  rw [e0] at g0
  obtain ⟨_, _, rfl, ⟨id1, rows1, rfl, m1, o1, r1⟩, rfl⟩ := h1
  obtain ⟨l1, f1, n1, e1, u1⟩ := rowsMs h rows1 r1
  rw [← n1]
  rw [f1] at o1
  have g1 := rd_of o1
  rw [e1] at g1
  have hm1 : (l1.length : Int) ≤ 9223372036854775807 := by
    have h7 : rows1.length ≤ 9223372036854775807 := m1
    omega
  exact c_lawTN h l0 l1 id0 0 id1 0 false false g0 g1 hm1 u1

set_option maxRecDepth 100000 in
theorem lifted (os : Os) (started : os.Started) (H : Type) (enc : TypeId × Value → H) :
    ReturnsInHanded {} Try.checked os 4 .any (Rows.trackNarrowsSpec.pre6 enc Try.prog Try.f4 Rows.trackNarrowsRow.domain false) (Rows.trackNarrowsSpec.post enc Try.prog Try.f4 false true false false) := by
  refine returnsInHanded_of_change (C := Try.checked) own started (by kernel_rfl) Try.func4
    (ChangeSpec.witness6 (enc := enc) (C := Try.checked) false ⟨#[], #[.agg #[.slice none 0 0], .slice none 0 0], []⟩ 8 (by kernel_rfl) (by kernel_rfl) (by kernel_rfl) (by kernel_rfl)) ?_
  intro W base args ds gs before hval hW hcnd _
  exact law_step (n := 9) (ks := ks) (bt := Try.f4.resultTypes.toList.headD 0) laidOut (by kernel_rfl) (by kernel_rfl) (by kernel_rfl) (by kernel_rfl) rfl (by
    intro ds hds
    have e : Try.f4.params.toList.length = 2 := by kernel_rfl
    rw [e] at hds
    match ds, hds with
    | [a, b], _ => rfl) law W base args ds gs before hval hW

open ParTrackNarrows
set_option maxRecDepth 100000 in
theorem closed : joinedFacts Try.prog 4 Try.f4 Rows.trackNarrowsSpec Rows.trackNarrowsRow = true := by
  unfold joinedFacts
  exact band (band (band (band (band (band (band (band (band (band (band (band (band (band (band (band (band (band (band (band (band (band (band (band (band (band (band (band (band (band (band (k0) k1) k2) k3) k4) k5) k6) k7) k8) k9) k10) k11) k12) k13) k14) k15) k16) k17) k18) k19) k20) k21) k22) k23) k24) k25) k26) k27) k28) k29) k30) k31

theorem over : Rows.TrackNarrowsSaid :=
  OpenClaim.holds_of_wide 4 Try.f4 rfl rfl rfl rfl rfl rfl rfl ⟨rfl, rfl, rfl, rfl, rfl⟩ rfl rfl rfl rfl rfl (by kernel_rfl) Try.func4 closed
    (of_decide_eq_true (by kernel_rfl)) (by unfold Func.isWrapper; first | (rw [if_pos (by decide +kernel)]; kernel_rfl) | (rw [if_neg (by decide +kernel)]; exact ⟨rfl, rfl⟩))
    (fun os started H enc _ => lifted os started H enc)
theorem proved : Rows.TrackNarrowsSaid := over
end Go.Proofs.Ytjagjbelmonpmaa
