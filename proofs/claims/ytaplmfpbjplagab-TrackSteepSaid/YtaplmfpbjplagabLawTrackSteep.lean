/- kreisellaw01.TrackSteep answers true: whatever the track and the choices are, in every world; no other condition. -/
import Derived.Test.YtaplmfpbjplagabC14
import Derived.Test.YtaplmfpbjplagabRows
import Derived.ProofKit
namespace Go.Proofs.Ytaplmfpbjplagab
open Go.Abs Go.ChangeShapes Go.WideShapes Go.ChangeAt Go.RowKit
theorem own : ownKnob Try.prog.godebug = none := by kernel_rfl
theorem laidOut : laidOutB Try.prog = true := by kernel_rfl

def ksSteep : List (List QK) := [[.sl [.int .i64, .int .i64, .int .i64, .int .i64, .int .i64, .int .i64, .int .i64, .int .u8, .int .i64]], [.sl [.int .u32]]]

theorem argAgg {P : Program} {t : TypeId} {avs : List AV} (h : (match P.underlying t with | some (.struct _) => true | _ => false) = true) : argAV P t avs = .agg avs := by
  unfold argAV
  split at h
  · rename_i x; rw [x]
  · cases h
theorem argOne {P : Program} {t : TypeId} {avs : List AV} (h : (match P.underlying t with | some (.slice _) => true | _ => false) = true) : argAV P t avs = avs.headD .junk := by
  unfold argAV
  split at h
  · rename_i x; rw [x]
  · cases h

theorem rd_of {h : Heap} {id : Nat} {vs : List AV} (hh : h[id]? = some (.cells vs false)) : rd h id 0 vs.length = some vs := by
  simp [rd, hh]

theorem rowsStr : ∀ (h : Heap) (rows : List (List AV)), (∀ r ∈ rows, lookL h [.int .i64, .int .i64, .int .i64, .int .i64, .int .i64, .int .i64, .int .i64, .int .u8, .int .i64] r) → ∃ l : List Str, rows.flatten = l.flatMap Str.av ∧ l.length = rows.length
  | _, [], _ => ⟨[], rfl, rfl⟩
  | h, r :: rs, hr => by
    obtain ⟨l, h1, h2⟩ := rowsStr h rs (fun r' h' => hr r' (List.mem_cons_of_mem _ h'))
    have h3 := hr r (List.mem_cons_self ..)
    simp only [lookL, QK.look] at h3
    obtain ⟨_, _, rfl, ⟨a1, rfl, _⟩, _, _, rfl, ⟨a2, rfl, _⟩, _, _, rfl, ⟨a3, rfl, _⟩, _, _, rfl, ⟨a4, rfl, _⟩, _, _, rfl, ⟨a5, rfl, _⟩, _, _, rfl, ⟨a6, rfl, _⟩, _, _, rfl, ⟨a7, rfl, _⟩, _, _, rfl, ⟨a8, rfl, _⟩, _, _, rfl, ⟨a9, rfl, _⟩, rfl⟩ := h3
    exact ⟨⟨a1, a2, a3, a4, a5, a6, a7, a8, a9⟩ :: l, by simp [h1, Str.av], by simp [h2]⟩
theorem rowsInt : ∀ (h : Heap) (rows : List (List AV)), (∀ r ∈ rows, lookL h [.int .u32] r) → ∃ us : List Int, rows.flatten = us.map (.int .u32) ∧ us.length = rows.length ∧ ∀ u ∈ us, 0 ≤ u ∧ u ≤ 4294967295
  | _, [], _ => ⟨[], rfl, rfl, by simp⟩
  | h, r :: rs, hr => by
    obtain ⟨l, h1, h2, h4⟩ := rowsInt h rs (fun r' h' => hr r' (List.mem_cons_of_mem _ h'))
    have h3 := hr r (List.mem_cons_self ..)
    simp only [lookL, QK.look] at h3
    obtain ⟨_, _, rfl, ⟨a1, rfl, b1, b2⟩, rfl⟩ := h3
    refine ⟨a1 :: l, by simp [h1], by simp [h2], ?_⟩
    intro u hu
    rcases List.mem_cons.1 hu with rfl | hu
    · exact ⟨b1, b2⟩
    · exact h4 u hu

noncomputable def PA : TypeId := Try.f4.params.toList.headD 0
noncomputable def PB : TypeId := (Try.f4.params.toList.drop 1).headD 0
theorem law (h : Heap) (avs : List AV) (_ : noOwn h) (hl : looks Try.prog h Try.f4.params.toList ksSteep avs) : ACalls Try.prog 4 avs h (fun v _ => v = .bool true) := by
  have e : Try.f4.params.toList = [PA, PB] := by kernel_rfl
  rw [e] at hl
  simp only [looks, ksSteep] at hl
  obtain ⟨_, _, rfl, h1, _, _, rfl, h2, rfl⟩ := hl
  rw [argAgg (by kernel_rfl), argOne (by kernel_rfl)]
  simp only [lookL, QK.look] at h1 h2
  obtain ⟨_, _, rfl, ⟨id, rows, rfl, m1, o1, r1⟩, rfl⟩ := h1
  obtain ⟨_, _, rfl, ⟨bid, rows2, rfl, m2, o2, r2⟩, rfl⟩ := h2
  obtain ⟨l, f1, n1⟩ := rowsStr h rows r1
  obtain ⟨us, f2, n2, hu⟩ := rowsInt h rows2 r2
  rw [← n1, ← n2]
  rw [f1] at o1
  rw [f2] at o2
  have g1 := rd_of o1
  have g2 := rd_of o2
  have e1 : (l.flatMap Str.av).length = l.length * 9 := by
    clear g1 o1 f1 n1
    induction l with
    | nil => rfl
    | cons a r ih => simp [Str.av, ih]; omega
  rw [e1] at g1
  rw [List.length_map] at g2
  have hm : (us.length : Int) ≤ 9223372036854775807 := by
    have h7 : rows2.length ≤ 9223372036854775807 := m2
    omega
  exact c_law h l us id 0 bid 0 false false g1 g2 hu hm

set_option maxRecDepth 100000 in
theorem lifted (os : Os) (started : os.Started) (H : Type) (enc : TypeId × Value → H) :
    ReturnsInHanded {} Try.checked os 4 .any (Rows.trackSteepSpec.pre6 enc Try.prog Try.f4 Rows.trackSteepRow.domain false) (Rows.trackSteepSpec.post enc Try.prog Try.f4 false true false false) := by
  refine returnsInHanded_of_change (C := Try.checked) own started (by kernel_rfl) Try.func4
    (ChangeSpec.witness6 (enc := enc) (C := Try.checked) false ⟨#[], #[.agg #[.slice none 0 0], .slice none 0 0], []⟩ 8 (by kernel_rfl) (by kernel_rfl) (by kernel_rfl) (by kernel_rfl)) ?_
  intro W base args ds gs before hval hW hcnd _
  exact law_step (n := 9) (ks := ksSteep) (bt := Try.f4.resultTypes.toList.headD 0) laidOut (by kernel_rfl) (by kernel_rfl) (by kernel_rfl) (by kernel_rfl) rfl (by
    intro ds hds
    have e : Try.f4.params.toList.length = 2 := by kernel_rfl
    rw [e] at hds
    match ds, hds with
    | [a, b], _ => rfl) law W base args ds gs before hval hW

theorem over : Rows.TrackSteepSaid :=
  OpenClaim.holds_of_wide 4 Try.f4 rfl rfl rfl rfl rfl rfl rfl ⟨rfl, rfl, rfl, rfl, rfl⟩ rfl rfl rfl rfl rfl (by kernel_rfl) Try.func4 (by kernel_rfl)
    (of_decide_eq_true (by kernel_rfl)) (by unfold Func.isWrapper; first | (rw [if_pos (by decide +kernel)]; kernel_rfl) | (rw [if_neg (by decide +kernel)]; exact ⟨rfl, rfl⟩))
    (fun os started H enc _ => lifted os started H enc)
theorem proved : Rows.TrackSteepSaid := over
end Go.Proofs.Ytaplmfpbjplagab
