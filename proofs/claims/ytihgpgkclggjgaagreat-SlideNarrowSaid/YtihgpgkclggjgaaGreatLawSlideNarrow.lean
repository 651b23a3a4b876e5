/- kreisellaw03.SlideNarrow answers true: with measures that narrow a track no head and no height gets a wider span, a sled that was safe stays so, and one that was surely thrown is; no other condition. -/
import Derived.Test.YtihgpgkclggjgaaGreatOO
import Derived.Test.YtihgpgkclggjgaaGreatParSlideNarrow
import Derived.Test.YtihgpgkclggjgaaGreatLawKitB
import Derived.Test.YtihgpgkclggjgaaGreatRows
import Derived.ProofKit
set_option linter.unusedSimpArgs false
set_option linter.unusedVariables false
namespace Go.Proofs.YtihgpgkclggjgaaGreat
open Go.Abs Go.ChangeShapes Go.WideShapes Go.ChangeAt Go.RowKit
theorem own : ownKnob Tryz.prog.godebug = none := by kernel_rfl
theorem laidOut : laidOutB Tryz.prog = true := by kernel_rfl
def ks : List (List QK) := [[.sl [.int .i64, .int .i64, .int .i64, .int .i64, .int .i64, .int .i64, .int .i64, .int .u8, .int .i64]], [.sl [.int .u8, .int .i64, .int .i64, .int .i64, .int .i64]], [.int .u8, .int .i64, .int .i64, .int .i64, .int .i64, .int .i64, .int .i64, .int .i64, .int .i64, .int .i64, .int .i64]]
noncomputable def PA0 : TypeId := (Tryz.f3.params.toList.drop 0).headD 0
noncomputable def PA1 : TypeId := (Tryz.f3.params.toList.drop 1).headD 0
noncomputable def PA2 : TypeId := (Tryz.f3.params.toList.drop 2).headD 0
theorem law (h : Heap) (avs : List AV) (_ : noOwn h) (hl : looks Tryz.prog h Tryz.f3.params.toList ks avs) : ACalls Tryz.prog 3 avs h (fun v _ => v = .bool true) := by
  have e : Tryz.f3.params.toList = [PA0, PA1, PA2] := by kernel_rfl
  rw [e] at hl
  simp only [looks, ks] at hl
  obtain ⟨_, _, rfl, h0, _, _, rfl, h1, _, _, rfl, h2, rfl⟩ := hl
  rw [argAgg (t := PA0) (by kernel_rfl), argOne (t := PA1) (by kernel_rfl), argAgg (t := PA2) (by kernel_rfl)]
  simp only [lookL, QK.look] at h0 h1 h2
  obtain ⟨_, _, rfl, ⟨id0, rows0, rfl, m0, o0, r0⟩, rfl⟩ := h0
  obtain ⟨l0, f0, n0, e0⟩ := rowsStr h rows0 r0
  rw [← n0]
  rw [f0] at o0
  have g0 := rd_of o0
  rw [e0] at g0
  obtain ⟨_, _, rfl, ⟨id1, rows1, rfl, m1, o1, r1⟩, rfl⟩ := h1
  obtain ⟨l1, f1, n1, e1, u1⟩ := rowsMs h rows1 r1
  rw [← n1]
  rw [f1] at o1
  have g1 := rd_of o1
  rw [e1] at g1
  have hm1 : (l1.length : Int) ≤ 9223372036854775807 := by
    have h7 : rows1.length ≤ 9223372036854775807 := m1
    omega
  obtain ⟨_, _, rfl, ⟨y2_0, rfl, py2_0, qy2_0⟩, _, _, rfl, ⟨y2_1, rfl, py2_1, qy2_1⟩, _, _, rfl, ⟨y2_2, rfl, py2_2, qy2_2⟩, _, _, rfl, ⟨y2_3, rfl, py2_3, qy2_3⟩, _, _, rfl, ⟨y2_4, rfl, py2_4, qy2_4⟩, _, _, rfl, ⟨y2_5, rfl, py2_5, qy2_5⟩, _, _, rfl, ⟨y2_6, rfl, py2_6, qy2_6⟩, _, _, rfl, ⟨y2_7, rfl, py2_7, qy2_7⟩, _, _, rfl, ⟨y2_8, rfl, py2_8, qy2_8⟩, _, _, rfl, ⟨y2_9, rfl, py2_9, qy2_9⟩, _, _, rfl, ⟨y2_10, rfl, py2_10, qy2_10⟩, rfl⟩ := h2
  exact c_lawSN h l0 l1 ⟨y2_0, y2_1, y2_2, y2_3, y2_4, y2_5, y2_6, y2_7, y2_8, y2_9, y2_10⟩ id0 0 id1 0 false false g0 g1 ⟨py2_0, qy2_0⟩ hm1 u1

set_option maxRecDepth 100000 in
theorem lifted (os : Os) (started : os.Started) (H : Type) (enc : TypeId × Value → H) :
    ReturnsInHanded {} Tryz.checked os 3 .any (Rows.slideNarrowSpec.pre6 enc Tryz.prog Tryz.f3 Rows.slideNarrowRow.domain false) (Rows.slideNarrowSpec.post enc Tryz.prog Tryz.f3 false true false false) := by
  refine returnsInHanded_of_change (C := Tryz.checked) own started (by kernel_rfl) Tryz.func3
    (ChangeSpec.witness6 (enc := enc) (C := Tryz.checked) false ⟨#[], #[.agg #[.slice none 0 0], .slice none 0 0, .agg #[.int .u8 0, .int .i64 0, .int .i64 0, .int .i64 0, .int .i64 0, .int .i64 0, .int .i64 0, .int .i64 0, .int .i64 0, .int .i64 0, .int .i64 0]], []⟩ 8 (by kernel_rfl) (by kernel_rfl) (by kernel_rfl) (by kernel_rfl)) ?_
  intro W base args ds gs before hval hW hcnd _
  exact law_step (n := 9) (ks := ks) (bt := Tryz.f3.resultTypes.toList.headD 0) laidOut (by kernel_rfl) (by kernel_rfl) (by kernel_rfl) (by kernel_rfl) rfl (by
    intro ds hds
    have e : Tryz.f3.params.toList.length = 3 := by kernel_rfl
    rw [e] at hds
    match ds, hds with
    | [a, b, c], _ => rfl) law W base args ds gs before hval hW

open ParSlideNarrow
set_option maxRecDepth 100000 in
theorem closed : joinedFacts Tryz.prog 3 Tryz.f3 Rows.slideNarrowSpec Rows.slideNarrowRow = true := by
  unfold joinedFacts
  exact band (band (band (band (band (band (band (band (band (band (band (band (band (band (band (band (band (band (band (band (band (band (band (band (band (band (band (band (band (band (band (k0) k1) k2) k3) k4) k5) k6) k7) k8) k9) k10) k11) k12) k13) k14) k15) k16) k17) k18) k19) k20) k21) k22) k23) k24) k25) k26) k27) k28) k29) k30) k31

theorem over : Rows.SlideNarrowSaid :=
  OpenClaim.holds_of_wide 3 Tryz.f3 rfl rfl rfl rfl rfl rfl rfl ⟨rfl, rfl, rfl, rfl, rfl⟩ rfl rfl rfl rfl rfl (by kernel_rfl) Tryz.func3 closed
    (of_decide_eq_true (by kernel_rfl)) (by unfold Func.isWrapper; first | (rw [if_pos (by decide +kernel)]; kernel_rfl) | (rw [if_neg (by decide +kernel)]; exact ⟨rfl, rfl⟩))
    (fun os started H enc _ => lifted os started H enc)
theorem proved : Rows.SlideNarrowSaid := over
end Go.Proofs.YtihgpgkclggjgaaGreat
