/- kreisellaw01.TrackSteep answers true: whatever the track and the choices are, in every world; no other condition. -/
import Derived.Test.YtfghjepmofkdaaaCD
import Derived.Test.YtfghjepmofkdaaaLawKit
import Derived.Test.YtfghjepmofkdaaaRows
import Derived.ProofKit
set_option linter.unusedSimpArgs false
set_option linter.unusedVariables false
namespace Go.Proofs.Ytfghjepmofkdaaa
open Go.Abs Go.ChangeShapes Go.WideShapes Go.ChangeAt Go.RowKit
theorem own : ownKnob Try.prog.godebug = none := by kernel_rfl
theorem laidOut : laidOutB Try.prog = true := by kernel_rfl
def ks : List (List QK) := [[.sl [.int .i64, .int .i64, .int .i64, .int .i64, .int .i64, .int .i64, .int .i64, .int .u8, .int .i64]], [.sl [.int .u32]]]
noncomputable def PA0 : TypeId := (Try.f3.params.toList.drop 0).headD 0
noncomputable def PA1 : TypeId := (Try.f3.params.toList.drop 1).headD 0
theorem law (h : Heap) (avs : List AV) (_ : noOwn h) (hl : looks Try.prog h Try.f3.params.toList ks avs) : ACalls Try.prog 3 avs h (fun v _ => v = .bool true) := by
  have e : Try.f3.params.toList = [PA0, PA1] := by kernel_rfl
  rw [e] at hl
  simp only [looks, ks] at hl
  obtain ⟨_, _, rfl, h0, _, _, rfl, h1, rfl⟩ := hl
  rw [argAgg (t := PA0) (by kernel_rfl), argOne (t := PA1) (by kernel_rfl)]
  simp only [lookL, QK.look] at h0 h1
  obtain ⟨_, _, rfl, ⟨id0, rows0, rfl, m0, o0, r0⟩, rfl⟩ := h0
  obtain ⟨l0, f0, n0, e0⟩ := rowsStr h rows0 r0
  rw [← n0]
  rw [f0] at o0
  have g0 := rd_of o0
  rw [e0] at g0
  obtain ⟨_, _, rfl, ⟨id1, rows1, rfl, m1, o1, r1⟩, rfl⟩ := h1
  obtain ⟨l1, f1, n1, u1⟩ := rowsInt h rows1 r1
  rw [← n1]
  rw [f1] at o1
  have g1 := rd_of o1
  rw [List.length_map] at g1
  have hm1 : (l1.length : Int) ≤ 9223372036854775807 := by
    have h7 : rows1.length ≤ 9223372036854775807 := m1
    omega
  exact c_law h l0 l1 id0 0 id1 0 false false g0 g1 u1 hm1

set_option maxRecDepth 100000 in
theorem lifted (os : Os) (started : os.Started) (H : Type) (enc : TypeId × Value → H) :
    ReturnsInHanded {} Try.checked os 3 .any (Rows.trackSteepSpec.pre6 enc Try.prog Try.f3 Rows.trackSteepRow.domain false) (Rows.trackSteepSpec.post enc Try.prog Try.f3 false true false false) := by
  refine returnsInHanded_of_change (C := Try.checked) own started (by kernel_rfl) Try.func3
    (ChangeSpec.witness6 (enc := enc) (C := Try.checked) false ⟨#[], #[.agg #[.slice none 0 0], .slice none 0 0], []⟩ 8 (by kernel_rfl) (by kernel_rfl) (by kernel_rfl) (by kernel_rfl)) ?_
  intro W base args ds gs before hval hW hcnd _
  exact law_step (n := 9) (ks := ks) (bt := Try.f3.resultTypes.toList.headD 0) laidOut (by kernel_rfl) (by kernel_rfl) (by kernel_rfl) (by kernel_rfl) rfl (by
    intro ds hds
    have e : Try.f3.params.toList.length = 2 := by kernel_rfl
    rw [e] at hds
    match ds, hds with
    | [a, b], _ => rfl) law W base args ds gs before hval hW

theorem over : Rows.TrackSteepSaid :=
  OpenClaim.holds_of_wide 3 Try.f3 rfl rfl rfl rfl rfl rfl rfl ⟨rfl, rfl, rfl, rfl, rfl⟩ rfl rfl rfl rfl rfl (by kernel_rfl) Try.func3 (by kernel_rfl)
    (of_decide_eq_true (by kernel_rfl)) (by unfold Func.isWrapper; first | (rw [if_pos (by decide +kernel)]; kernel_rfl) | (rw [if_neg (by decide +kernel)]; exact ⟨rfl, rfl⟩))
    (fun os started H enc _ => lifted os started H enc)
theorem proved : Rows.TrackSteepSaid := over
end Go.Proofs.Ytfghjepmofkdaaa
