/- The orders that a region may draw. -/
import Derived.Test.YtbfihdpmphlckaaA12
set_option linter.unusedSimpArgs false
set_option linter.unusedVariables false
namespace Go.Abs

structure Topo (ops : Array Oper) (l : List Nat) : Prop where
  nodup : l.Nodup
  lt : ∀ i ∈ l, i < ops.size
  all : ∀ i, i < ops.size → i ∈ l
  deps : ∀ (pre post : List Nat) (i : Nat), l = pre ++ i :: post → ∀ o, ops[i]? = some o → ∀ e ∈ o.after, Region.binds .any e = true → e.on ∈ pre

theorem binds_any {m : Region.Mode} {e : Edge} (h : Region.binds .any e = true) : Region.binds m e = true := by
  cases hg : e.ground <;> simp only [Region.binds, hg] at h ⊢ <;> first | rfl | (exact absurd h (by decide))

theorem nodup_len : ∀ (n : Nat) (l : List Nat), l.Nodup → (∀ x ∈ l, x < n) → l.length ≤ n
  | 0, [], _, _ => Nat.le_refl _
  | 0, x :: _, _, h => absurd (h x (by simp)) (by omega)
  | n + 1, l, hn, h => by
    by_cases hm : n ∈ l
    · have h1 := nodup_len n (l.erase n) (hn.erase n) (fun x hx => by
        have := h x (List.mem_of_mem_erase hx)
        have hne : x ≠ n := fun e => by subst e; exact (hn.mem_erase_iff.1 hx).1 rfl
        omega)
      rw [List.length_erase_of_mem hm] at h1
      omega
    · have h1 := nodup_len n l hn (fun x hx => by
        have := h x hx
        have hne : x ≠ n := fun e => hm (e ▸ hx)
        omega)
      omega

theorem cover_len : ∀ (n : Nat) (l : List Nat), (∀ i, i < n → i ∈ l) → n ≤ l.length
  | 0, _, _ => Nat.zero_le _
  | n + 1, l, h => by
    have h1 := cover_len n (l.erase n) (fun i hi => (List.mem_erase_of_ne (by omega)).2 (h i (by omega)))
    have hm := h n (by omega)
    rw [List.length_erase_of_mem hm] at h1
    have := List.length_pos_of_mem hm
    omega

theorem ready_one {m : Region.Mode} {ops : Array Oper} : ∀ (ord seen acc : List Nat), ordOK m ops ord seen = true → (∀ i ∈ seen, i ∈ acc) → (∃ i, i < ops.size ∧ i ∉ acc) →
    ∃ i, i < ops.size ∧ i ∉ acc ∧ ∃ o, ops[i]? = some o ∧ ∀ e ∈ o.after, Region.binds m e = true → e.on ∈ acc
  | [], seen, acc, h, hs, ⟨i, hi, hn⟩ => by
    simp only [ordOK, List.all_eq_true, List.mem_range, List.contains_iff_mem] at h
    exact (hn (hs i (h i hi))).elim
  | j :: r, seen, acc, h, hs, hex => by
    simp only [ordOK, Bool.and_eq_true] at h
    obtain ⟨h1, h2⟩ := h
    by_cases hj : j ∈ acc
    · refine ready_one r (j :: seen) acc h2 (fun i hi => ?_) hex
      rcases List.mem_cons.1 hi with rfl | hi
      · exact hj
      · exact hs i hi
    · split at h1
      · rename_i o ho
        refine ⟨j, ?_, hj, o, ho, fun e he hb => ?_⟩
        · rcases Nat.lt_or_ge j ops.size with h | h
          · exact h
          · rw [Array.getElem?_eq_none h] at ho; cases ho
        · have := List.all_eq_true.1 h1 e (by simpa using he)
          simp only [hb, Bool.not_true, Bool.false_or, List.contains_iff_mem] at this
          exact hs _ this
      · cases h1

theorem go_topo {m : Region.Mode} {ops : Array Oper} {ord : List Nat} (ho : ordOK m ops ord [] = true) : ∀ (fuel t : Nat) (listed : Array Bool) (acc : List Nat),
    listed.size = ops.size → (∀ i, i < ops.size → (listed.getD i true = true ↔ i ∈ acc)) → acc.Nodup → (∀ i ∈ acc, i < ops.size) → acc.length + fuel = ops.size →
    (∀ (pre post : List Nat) (i : Nat), acc.reverse = pre ++ i :: post → ∀ o, ops[i]? = some o → ∀ e ∈ o.after, Region.binds .any e = true → e.on ∈ pre) →
    Topo ops (Region.linearise.go m ops fuel t listed acc)
  | 0, t, listed, acc, h1, h2, h3, h4, h5, h6 => by
    simp only [Region.linearise.go]
    refine ⟨List.pairwise_reverse.2 (h3.imp Ne.symm), fun i hi => h4 i (List.mem_reverse.1 hi), fun i hi => ?_, h6⟩
    rw [List.mem_reverse]
    rcases Classical.em (i ∈ acc) with h | h
    · exact h
    · exfalso
      have hsub : (i :: acc).Nodup := List.nodup_cons.2 ⟨h, h3⟩
      have hle := nodup_len ops.size (i :: acc) hsub (fun x hx => by
        rcases List.mem_cons.1 hx with rfl | hx
        · exact hi
        · exact h4 x hx)
      simp at hle; omega
  | fuel + 1, t, listed, acc, h1, h2, h3, h4, h5, h6 => by
    simp only [Region.linearise.go]
    have hnot : ∃ i, i < ops.size ∧ i ∉ acc := by
      rcases Classical.em (∃ i, i < ops.size ∧ i ∉ acc) with h | h
      · exact h
      · exfalso
        have hle := cover_len ops.size acc (fun x hx => by
          rcases Classical.em (x ∈ acc) with hm | hm
          · exact hm
          · exact (h ⟨x, hx, hm⟩).elim)
        omega
    obtain ⟨j, j1, j2, oj, j3, j4⟩ := ready_one ord [] acc ho (fun _ h => by cases h) hnot
    have hmem : ∀ i, i ∈ (List.range ops.size).filter (fun i => !listed.getD i true && ((ops[i]?).map (·.after.all fun e => !Region.binds m e || listed.getD e.on false)).getD false) →
        i < ops.size ∧ i ∉ acc ∧ ∀ o, ops[i]? = some o → ∀ e ∈ o.after, Region.binds m e = true → e.on ∈ acc := by
      intro i hi
      simp only [List.mem_filter, List.mem_range, Bool.and_eq_true, Bool.not_eq_true'] at hi
      obtain ⟨g1, g2, g3⟩ := hi
      refine ⟨g1, (fun hm => by rw [(h2 i g1).2 hm] at g2; cases g2), fun o ho' e he hb => ?_⟩
      rw [ho'] at g3
      simp only [Option.map_some, Option.getD_some, Array.all_eq_true_iff_forall_mem] at g3
      have := g3 e he
      simp only [hb, Bool.not_true, Bool.false_or] at this
      by_cases hlt : e.on < ops.size
      · refine (h2 _ hlt).1 ?_
        have h8 : e.on < listed.size := by omega
        simp only [Array.getD, h8, dite_true] at this ⊢
        exact this
      · have h8 : ¬ e.on < listed.size := by omega
        simp [Array.getD, h8] at this
    have hjr : j ∈ (List.range ops.size).filter (fun i => !listed.getD i true && ((ops[i]?).map (·.after.all fun e => !Region.binds m e || listed.getD e.on false)).getD false) := by
      simp only [List.mem_filter, List.mem_range, Bool.and_eq_true, Bool.not_eq_true']
      refine ⟨j1, ?_, ?_⟩
      · cases hl : listed.getD j true with
        | false => rfl
        | true => exact (j2 ((h2 j j1).1 hl)).elim
      · rw [j3]
        simp only [Option.map_some, Option.getD_some, Array.all_eq_true_iff_forall_mem]
        intro e he
        cases hb : Region.binds m e with
        | false => rfl
        | true =>
          have hin := j4 e he hb
          have hlt := h4 _ hin
          have := (h2 _ hlt).2 hin
          have h8 : e.on < listed.size := by omega
          simp only [Array.getD, h8, dite_true] at this ⊢
          simpa using this
    split
    · rename_i i hi
      obtain ⟨g1, g2, g3⟩ := hmem i (List.mem_of_getElem? hi)
      refine go_topo ho fuel _ _ _ (by simpa using h1) ?_ (List.nodup_cons.2 ⟨g2, h3⟩) ?_ (by simp; omega) ?_
      · intro k hk
        have h8 : k < listed.size := by omega
        have h9 := h2 k hk
        rw [Array.getD_eq_getD_getElem?] at h9 ⊢
        rw [Array.getElem?_setIfInBounds]
        simp only [List.mem_cons]
        by_cases hik : i = k
        · subst hik; simp [h8]
        · simp only [hik, if_false]
          rw [h9]
          constructor
          · exact fun h => .inr h
          · rintro (h | h)
            · exact (hik h.symm).elim
            · exact h
      · intro k hk
        rcases List.mem_cons.1 hk with rfl | hk
        · exact g1
        · exact h4 k hk
      · intro pre post k he o ho' e hee hb
        rw [List.reverse_cons] at he
        rcases List.eq_nil_or_concat post with rfl | ⟨post', x, rfl⟩
        · have := List.append_inj' he rfl
          obtain ⟨e1, e2⟩ := this
          simp only [List.cons.injEq, and_true] at e2
          subst e2
          rw [← e1, List.mem_reverse]
          exact g3 o ho' e hee (binds_any hb)
        · have he' : acc.reverse ++ [i] = (pre ++ k :: post') ++ [x] := by simpa using he
          have := List.append_inj' he' rfl
          exact h6 pre post' k this.1 o ho' e hee hb
    · rename_i hnone
      exfalso
      have hlen : 0 < ((List.range ops.size).filter (fun i => !listed.getD i true && ((ops[i]?).map (·.after.all fun e => !Region.binds m e || listed.getD e.on false)).getD false)).length :=
        List.length_pos_of_mem hjr
      rw [List.getElem?_eq_none_iff] at hnone
      have := Nat.mod_lt t hlen
      omega

theorem linearise_topo {m : Region.Mode} {ops : Array Oper} {ord : List Nat} (ho : ordOK m ops ord [] = true) (t : Nat) : Topo ops (Region.linearise m ops t) := by
  refine go_topo ho _ _ _ _ (by simp) (fun i hi => ?_) List.nodup_nil (fun _ h => by cases h) (by simp) ?_
  · simp [Array.getD, hi]
  · intro pre post i h
    simp at h

theorem schedule_topo {ops : Array Oper} (h : drawOrders ops = true) (mixed : Bool) (t : Nat) : Topo ops (Region.schedule mixed ops t) := by
  unfold drawOrders at h
  simp only [Bool.and_eq_true, Bool.or_eq_true, Bool.not_eq_true'] at h
  unfold Region.schedule
  split
  · exact linearise_topo h.1 t
  · rename_i hn
    simp only [Bool.or_eq_true, Bool.not_eq_true', not_or] at hn
    have := h.2.resolve_left (by simpa using hn.2)
    split
    · exact linearise_topo this.1 _
    · exact linearise_topo this.2 _
end Go.Abs
