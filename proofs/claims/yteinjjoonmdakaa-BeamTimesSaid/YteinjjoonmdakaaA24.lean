/- The abstract machine, run: what it leaves is what the laws say. -/
import Derived.Test.YteinjjoonmdakaaA23
set_option linter.unusedSimpArgs false
set_option linter.unusedVariables false
namespace Go.Abs
open Go.RowKit
section
variable {P : Program} {call : FuncId → List AV → Heap → Option (AV × Heap)} {yl : Nat → List AV → Heap → Option (AV × Heap)}
theorem le_take {H h : Heap} {v : AV} (hl : H.length ≤ h.length) (hv : v.sc H.length = true) (hs : ((h.take H.length).all fun o => o.sc H.length) = true) : Le H ⟨[(0, v)], h⟩ ⟨[(0, v)], h.take H.length⟩ := by
  have len : (h.take H.length).length = H.length := by simp; omega
  refine ⟨by rw [len]; exact Nat.le_refl _, id, fun _ _ => rfl, fun i o hi => ?_, fun i j _ _ _ _ _ _ hne => hne, fun k => ?_⟩
  · have hsc : o.sc H.length = true := List.all_eq_true.1 hs o (List.mem_of_getElem? hi)
    refine .inr (.inr ⟨by rw [len]; exact hsc, ?_⟩)
    rw [aren_id (ρ := id) (m := H.length) (fun _ _ => rfl) o hsc]
    rw [List.getElem?_take] at hi
    split at hi
    · exact hi
    · cases hi
  · show lk [(0, v)] k = .junk ∨ ((lk [(0, v)] k).sc (h.take H.length).length = true ∧ lk [(0, v)] k = (lk [(0, v)] k).ren id)
    simp only [lk]
    split
    · exact .inr ⟨by rw [len]; exact hv, (ren_id (ρ := id) (m := H.length) (fun _ _ => rfl) v hv).symm⟩
    · exact .inl rfl

def kEnt (v : AV) : Ent := ⟨.seq (.ops [⟨some 0, .mov (.c v), none⟩] none) .ret, [.t 0], 0⟩
def EntOK (P : Program) (f : FuncId) (e : Ent) : Prop := FnOK P f e.ac e.rs e.n ∨ ∃ v, e = kEnt v ∧ ∀ H, ACalls P f [] H (fun v' h' => v' = v ∧ h' = H)
def EntsOK (P : Program) (T : FuncId → Option Ent) : Prop := ∀ f e, T f = some e → EntOK P f e
theorem ACalls.frame {f : FuncId} {args : List AV} {v : AV} {h' : Heap} (k : ACalls P f args [] (fun v' h'' => v' = v ∧ h'' = h')) (ha : scL 0 args = true) (hv : v.sc 0 = true) (H : Heap) : ACalls P f args H (fun v' h'' => v' = v ∧ h'' = H) := by
  refine ⟨k.1, fun B σ w cargs hk hrel => ?_⟩
  have hk0 : HeapOK P B [] [] w := ⟨rfl, hk.low, fun i o l hi => by simp at hi, fun i j oi oj li lj hi => by simp at hi⟩
  have hr0 : RelL [] args cargs.toList := by
    have := relL_ren (σ := σ) (ρ := id) (m := 0) args cargs.toList ha (by rw [renL_id (ρ := id) (m := 0) (fun _ _ => rfl) args ha]; exact hrel)
    simpa [sgOf] using this
  refine (k.2 B [] w cargs hk0 hr0).mono ?_
  rintro e w' ⟨c, σ', v', h'', rfl, _, e3, e4, e5, rfl, rfl⟩
  have hfr : ∀ b, b < w.heap.size → w'.heap[b]? = w.heap[b]? := fun b hb => e5.frame b hb (fun i o l hi => by simp at hi)
  refine ⟨c, σ, _, H, rfl, ⟨[], by simp⟩, hk.world e5.size hfr, ?_, ?_, rfl, rfl⟩
  · have h1 := rel_ren (σ := σ') (ρ := id) (m := 0) v' c hv (by rw [ren_id (ρ := id) (m := 0) (fun _ _ => rfl) v' hv]; exact e4)
    have h2 : Rel [] v' c := by simpa [sgOf] using h1
    exact Rel.mono ⟨by simp, fun i l hi => by simp at hi⟩ _ _ h2
  · exact ⟨e5.os, e5.tape, e5.output, e5.size, fun b hb _ => hfr b hb, fun i o l h1 h2 h3 => .inr ⟨i, o, l, h1, h2, h3, rfl⟩, fun i o l h1 h2 h3 => .inr ⟨i, o, l, h1, h2, h3, rfl⟩, e5.ctl⟩

end
end Go.Abs
namespace Go.Abs
def look : List (Nat × Ent) → FuncId → Option Ent
  | [], _ => none
  | (k, e) :: r, f => if k = f then some e else look r f
def AllOK (P : Program) : List (Nat × Ent) → Prop
  | [] => True
  | (k, e) :: r => FnOK P k e.ac e.rs e.n ∧ AllOK P r
end Go.Abs
