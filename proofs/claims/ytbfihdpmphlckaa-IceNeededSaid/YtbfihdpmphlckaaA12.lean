/- Regions that draw their order: what is asked of them, and how an order runs. First part: laws of single operations. -/
import Derived.Test.YtbfihdpmphlckaaA10
set_option linter.unusedSimpArgs false
set_option linter.unusedVariables false
namespace Go.Abs
open Go.RowKit

section
variable {t t' : List (Nat × AV)}

theorem ev_congr {x : AOpd} (h : ∀ k ∈ opdSlots x, lk t k = lk t' k) : x.ev t = x.ev t' := by
  cases x with
  | t i => exact h i (by simp [opdSlots])
  | c v => rfl
theorem evs_congr : ∀ {xs : List AOpd}, (∀ k ∈ opdsSlots xs, lk t k = lk t' k) → xs.map (AOpd.ev t) = xs.map (AOpd.ev t')
  | [], _ => rfl
  | x :: xs, h => by
    simp only [opdsSlots, List.mem_append] at h
    simp only [List.map_cons, ev_congr (fun k hk => h k (.inl hk)), evs_congr (fun k hk => h k (.inr hk))]
theorem opt_congr {x : Option AOpd} (h : ∀ k ∈ opdsSlots x.toList, lk t k = lk t' k) : x.map (AOpd.ev t) = x.map (AOpd.ev t') := by
  cases x with
  | none => rfl
  | some x => simp only [Option.toList_some, opdsSlots, List.append_nil] at h; simp only [Option.map_some, ev_congr h]
theorem fill_congr : ∀ {ps : List (Nat × Nat × AOpd)} (cs : List AV), (∀ k ∈ partSlots ps, lk t k = lk t' k) → fillA (AOpd.ev t) cs ps = fillA (AOpd.ev t') cs ps
  | [], _, _ => rfl
  | (off, n, x) :: ps, cs, h => by
    simp only [partSlots, List.mem_append] at h
    simp only [fillA, ev_congr (fun k hk => h k (.inl hk))]
    split
    · split
      · exact fill_congr _ (fun k hk => h k (.inr hk))
      · rfl
    · rfl

theorem sem_congr {op : AOp} {h : Heap} {K : AV → Heap → Prop} (he : ∀ k ∈ op.slots, lk t k = lk t' k) (hs : op.sem (AOpd.ev t) h K) : op.sem (AOpd.ev t') h K := by
  cases op <;> simp only [AOp.slots, List.mem_append] at he
  case alloc => exact hs
  case bad => exact hs
  case makeMap => exact hs
  case mapPut k x y z =>
    simp only [AOp.sem] at hs ⊢
    rw [← ev_congr (x := x) (fun k hk => he k (.inl (.inl hk))), ← ev_congr (x := y) (fun k hk => he k (.inl (.inr hk))), ← ev_congr (x := z) (fun k hk => he k (.inr hk))]; exact hs
  case callF => exact hs
  case callV => exact hs
  case build zs ps => simp only [AOp.sem] at hs ⊢; rw [← fill_congr zs he]; exact hs
  case buildSlice zs ps len sz => simp only [AOp.sem] at hs ⊢; rw [← fill_congr zs he]; exact hs
  case mkfn f a b =>
    simp only [AOp.sem] at hs ⊢
    rw [← evs_congr (fun k hk => he k (.inl hk)), ← evs_congr (fun k hk => he k (.inr hk))]; exact hs
  case slice x lo hi sz =>
    simp only [AOp.sem] at hs ⊢
    rw [← ev_congr (fun k hk => he k (.inl (.inl hk))), ← opt_congr (fun k hk => he k (.inl (.inr hk))), ← opt_congr (fun k hk => he k (.inr hk))]; exact hs
  case sSlice x lo hi =>
    simp only [AOp.sem] at hs ⊢
    rw [← ev_congr (fun k hk => he k (.inl (.inl hk))), ← opt_congr (fun k hk => he k (.inl (.inr hk))), ← opt_congr (fun k hk => he k (.inr hk))]; exact hs
  case slice3 x lo hi mx sz =>
    simp only [AOp.sem] at hs ⊢
    rw [← ev_congr (fun k hk => he k (.inl (.inl (.inl hk)))), ← opt_congr (fun k hk => he k (.inl (.inl (.inr hk)))), ← ev_congr (x := hi) (fun k hk => he k (.inl (.inr hk))), ← ev_congr (x := mx) (fun k hk => he k (.inr hk))]; exact hs
  case pick a b c =>
    simp only [AOp.sem] at hs ⊢
    rw [← ev_congr (x := a) (fun k hk => he k (.inl (.inl hk))), ← ev_congr (x := b) (fun k hk => he k (.inl (.inr hk))), ← ev_congr (x := c) (fun k hk => he k (.inr hk))]; exact hs
  all_goals first
    | (simp only [AOp.sem] at hs ⊢; rw [← ev_congr he]; exact hs)
    | (rename_i x y; simp only [AOp.sem] at hs ⊢; rw [← ev_congr (fun k hk => he k (.inl hk)), ← ev_congr (x := y) (fun k hk => he k (.inr hk))]; exact hs)
    | (rename_i x y _; simp only [AOp.sem] at hs ⊢; rw [← ev_congr (fun k hk => he k (.inl hk)), ← ev_congr (x := y) (fun k hk => he k (.inr hk))]; exact hs)
    | (rename_i x y _ _; simp only [AOp.sem] at hs ⊢; rw [← ev_congr (fun k hk => he k (.inl hk)), ← ev_congr (x := y) (fun k hk => he k (.inr hk))]; exact hs)
    | (rename_i _ x y; simp only [AOp.sem] at hs ⊢; rw [← ev_congr (x := x) (fun k hk => he k (.inl hk)), ← ev_congr (x := y) (fun k hk => he k (.inr hk))]; exact hs)
    | (rename_i _ _ _ x y; simp only [AOp.sem] at hs ⊢; rw [← ev_congr (x := x) (fun k hk => he k (.inl hk)), ← ev_congr (x := y) (fun k hk => he k (.inr hk))]; exact hs)
    | (rename_i x _ y; simp only [AOp.sem] at hs ⊢; rw [← ev_congr (fun k hk => he k (.inl hk)), ← ev_congr (x := y) (fun k hk => he k (.inr hk))]; exact hs)
    | skip
end

theorem sem_ex {op : AOp} {ev : AOpd → AV} {h : Heap} {K : AV → Heap → Prop} (hs : op.sem ev h K) : ∃ v h', K v h' ∧ op.sem ev h (fun v' h'' => v' = v ∧ h'' = h') := by
  cases op
  case min2 x y =>
    simp only [AOp.sem] at hs ⊢
    split at hs
    · exact ⟨_, _, hs, by simp⟩
    · cases hs
  case max2 x y =>
    simp only [AOp.sem] at hs ⊢
    split at hs
    · exact ⟨_, _, hs, by simp⟩
    · cases hs
  case index1 x i n =>
    simp only [AOp.sem] at hs ⊢
    split at hs
    · obtain ⟨h0, h1, v, h2, h3⟩ := hs
      exact ⟨v, h, h3, h0, h1, v, h2, rfl, rfl⟩
    · cases hs
  case bin op x y =>
    have plain : (∃ v, binA op (ev x) (ev y) = some v ∧ K v h) → ∃ v h', K v h' ∧ (match binA op (ev x) (ev y) with | some v2 => v2 = v ∧ h = h' | none => False) := by
      rintro ⟨v, hv, hK⟩
      exact ⟨v, h, hK, by rw [hv]; exact ⟨rfl, rfl⟩⟩
    cases op
    case quo =>
      simp only [AOp.sem, divA] at hs ⊢
      split at hs
      · obtain ⟨h0, h1, h2⟩ := hs; exact ⟨_, _, h2, h0, h1, rfl, rfl⟩
      · cases hs
    case rem =>
      simp only [AOp.sem, divA] at hs ⊢
      split at hs
      · obtain ⟨h0, h1, h2⟩ := hs; exact ⟨_, _, h2, h0, h1, rfl, rfl⟩
      · cases hs
    all_goals
      simp only [AOp.sem] at hs ⊢
      refine plain ?_
      split at hs
      · rename_i v hv; exact ⟨v, hv, hs⟩
      · cases hs
  all_goals (simp only [AOp.sem] at hs ⊢ <;> (repeat' split at hs) <;> simp_all)

theorem sem_pure {op : AOp} {ev : AOpd → AV} {h h2 : Heap} {v : AV} {h' : Heap} (hc : op.cls = 0) (hs : op.sem ev h (fun v' h'' => v' = v ∧ h'' = h')) : h' = h ∧ op.sem ev h2 (fun v' h'' => v' = v ∧ h'' = h2) := by
  cases op
  case min2 x y =>
    simp only [AOp.sem] at hs ⊢
    split at hs
    · exact ⟨hs.2.symm, by simp [hs.1]⟩
    · cases hs
  case max2 x y =>
    simp only [AOp.sem] at hs ⊢
    split at hs
    · exact ⟨hs.2.symm, by simp [hs.1]⟩
    · cases hs
  case index1 x i n =>
    simp only [AOp.sem] at hs ⊢
    split at hs
    · obtain ⟨h0, h1, u, h2, h3, h4⟩ := hs
      exact ⟨h4.symm, h0, h1, u, h2, h3, trivial⟩
    · cases hs
  case bin op x y =>
    cases op
    case quo =>
      simp only [AOp.sem, divA] at hs ⊢
      split at hs
      · obtain ⟨h0, h1, h2, h3⟩ := hs; exact ⟨h3.symm, h0, h1, h2, trivial⟩
      · cases hs
    case rem =>
      simp only [AOp.sem, divA] at hs ⊢
      split at hs
      · obtain ⟨h0, h1, h2, h3⟩ := hs; exact ⟨h3.symm, h0, h1, h2, trivial⟩
      · cases hs
    all_goals (simp only [AOp.sem] at hs ⊢; split at hs <;> simp_all)
  all_goals first
    | (simp [AOp.cls] at hc; done)
    | (simp only [AOp.sem] at hs ⊢ <;> (repeat' split at hs) <;> simp_all)

def MObj : Option (List AV) → AObj
  | some cs => .cells cs true
  | none => .other (.map [] [] 0)
def AOp.made (ev : AOpd → AV) : AOp → Option (Option (List AV) × (Nat → AV))
  | .alloc zs => some (some zs, fun p => .ptr p 0)
  | .box x => (cellsOf (ev x)).map fun cs => (some cs, fun p => .ptr p 0)
  | .buildSlice zs ps ln sz => (fillA ev zs ps).map fun cs => (some cs, fun p => .slice p 0 ln sz true)
  | .makeSl zs sz bytes ln cp => match ev ln, ev cp with
    | .int _ n, .int _ c => if 0 ≤ n ∧ n ≤ c ∧ (bytes : Int) * c ≤ 281474976710656 ∧ c ≤ 9223372036854775807 then some (some (List.replicate c.toNat zs).flatten, fun p => .slice p 0 n.toNat sz (decide (n = c))) else none
    | _, _ => none
  | .makeMap => some (none, fun p => .map p)
  | _ => none

theorem sem_made {op : AOp} {ev : AOpd → AV} {h : Heap} {K : AV → Heap → Prop} (hc : op.cls = 2) (hs : op.sem ev h K) :
    ∃ cs f, op.made ev = some (cs, f) ∧ K (f h.length) (h ++ [MObj cs]) := by
  cases op
  case' alloc => skip
  all_goals try (simp [AOp.cls] at hc; done)
  all_goals simp only [AOp.sem, AOp.made] at hs ⊢
  · exact ⟨_, _, rfl, hs⟩
  · split at hs
    · rename_i cs hcs; exact ⟨some cs, _, by rw [hcs]; rfl, hs⟩
    · cases hs
  · split at hs
    · rename_i cs hcs; exact ⟨some cs, _, by rw [hcs]; rfl, hs⟩
    · cases hs
  · split at hs
    · rename_i k1 n k2 c h1 h2
      obtain ⟨q0, q1, q2, q3, hK⟩ := hs
      refine ⟨some _, fun p => .slice p 0 n.toNat _ (decide (n = c)), ?_, hK⟩
      simp only [h1, h2]
      rw [if_pos ⟨q0, q1, q2, q3⟩]
    · cases hs
  · exact ⟨none, _, rfl, hs⟩
end Go.Abs
