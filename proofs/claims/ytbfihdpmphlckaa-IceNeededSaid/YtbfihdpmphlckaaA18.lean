/- A region in an order that it draws: its steps. -/
import Derived.Test.YtbfihdpmphlckaaA17
set_option linter.unusedSimpArgs false
set_option linter.unusedVariables false
namespace Go.Abs
open Go.RowKit

theorem Ext.take {σ σ' : Sg} (h : Ext σ σ') (m : Nat) : Ext (σ.take m) (σ'.take m) := by
  refine ⟨by have := h.1; simp; omega, fun i l hi => ?_⟩
  rw [List.getElem?_take] at hi ⊢
  split at hi
  · rename_i him; rw [if_pos him]; exact h.2 i l hi
  · cases hi

def Pend (c : Cert) (B : Nat) (σ : Sg) (w0 w : World) (o : AO) (i : Nat) : Prop :=
  o.op.cls = 2 ∧ ∃ cs l ob, c.hp (i + 1) = c.hp i ++ [MObj cs] ∧ σ[pid c i]? = some (some l) ∧ l.base = 0 ∧ w.heap[l.blk]? = some ob ∧
    MRel (σ.take (pid c i)) cs ob l.tot ∧ B ≤ l.blk ∧ w0.heap.size ≤ l.blk

structure Inv (P : Program) (rnd : Rn) (c : Cert) (al : List AO) (t0 : List (Nat × AV)) (B n0 sz : Nat) (σ0 : Sg) (h0 : Heap) (w0 : World) (D : List Nat) (q : Nat) (σ : Sg) (w : World) (a : Act) : Prop where
  qle : q ≤ al.length
  len : (c.hp q).length ≤ σ.length
  up : σ.length ≤ (c.hp al.length).length
  hk : HeapOK P B (σ.take (c.hp q).length) (c.hp q) w
  gr : Grow σ0 h0 w0 (σ.take (c.hp q).length) (c.hp q) w
  ag : Agree n0 σ0 σ
  before : ∀ (k : Nat) (o : AO), k < q → al[k]? = some o → c.HR o.op k → k ∈ D
  pend : ∀ (i : Nat) (o : AO), i ∈ D → q ≤ i → al[i]? = some o → c.HR o.op i → Pend c B σ w0 w o i
  free : ∀ (j : Nat) (l : Loc), (c.hp q).length ≤ j → σ[j]? = some (some l) → ∃ (i : Nat) (o : AO), i ∈ D ∧ q ≤ i ∧ al[i]? = some o ∧ c.HR o.op i ∧ j = pid c i
  away : ∀ (i : Nat) (o : AO) (l : Loc), i ∈ D → q ≤ i → al[i]? = some o → c.HR o.op i → σ[pid c i]? = some (some l) →
    ∀ (j : Nat) (ob : AObj) (m : Loc), (c.hp q)[j]? = some ob → ob.live = true → σ[j]? = some (some m) → m.blk ≠ l.blk
  apart : ∀ (i i' : Nat) (o o' : AO) (l l' : Loc), i ∈ D → i' ∈ D → q ≤ i → q ≤ i' → al[i]? = some o → al[i']? = some o' → c.HR o.op i → c.HR o'.op i' → i ≠ i' →
    σ[pid c i]? = some (some l) → σ[pid c i']? = some (some l') → l.blk ≠ l'.blk
  tok : TOKD c al t0 σ D a
  defers : Kept rnd a w
  size : a.tmps.size = sz

section
variable {P : Program} {rnd : Rn} {al : List AO} {c : Cert} {t0 : List (Nat × AV)} {B n0 sz : Nat} {σ0 : Sg} {h0 : Heap} {w0 : World} {D : List Nat} {q : Nat} {σ : Sg} {w : World} {a : Act}

theorem take_get {σ : Sg} {m j : Nat} (h : j < m) : (σ.take m)[j]? = σ[j]? := by rw [List.getElem?_take, if_pos h]

theorem Inv.advance (hruns : ∀ (j : Nat) (o : AO), al[j]? = some o → c.Runs P o j) (iv : Inv P rnd c al t0 B n0 sz σ0 h0 w0 D q σ w a) {o : AO} (ho : al[q]? = some o) (h : c.HR o.op q → q ∈ D) :
    Inv P rnd c al t0 B n0 sz σ0 h0 w0 D (q + 1) σ w a := by
  have hlt := get_some_lt ho
  by_cases hHR : c.HR o.op q
  · have hqD := h hHR
    obtain ⟨hcls, cs, l, ob0, p1, p2, p3, p4, p6, p7, p8⟩ := iv.pend q o hqD (Nat.le_refl _) ho hHR
    have hlen1 : (c.hp (q + 1)).length = (c.hp q).length + 1 := by rw [p1]; simp
    have htake : σ.take (c.hp (q + 1)).length = σ.take (c.hp q).length ++ [some l] := by
      rw [hlen1, List.take_add_one]
      have : σ[(c.hp q).length]? = some (some l) := p2
      rw [this]; rfl
    have hold : ∀ (j : Nat) (m : Loc), (σ.take (c.hp q).length)[j]? = some (some m) → σ[j]? = some (some m) := fun j m hj => by
      rw [List.getElem?_take] at hj; split at hj
      · exact hj
      · cases hj
    refine ⟨hlt, ?_, iv.up, ?_, ?_, iv.ag, ?_, ?_, ?_, ?_, ?_, iv.tok, iv.defers, iv.size⟩
    · rw [hlen1]; exact get_some_lt p2
    · rw [htake, p1]
      refine iv.hk.adopt p4 p3 (MRel.mono (Ext.app _ _) p6) p7 ?_
      intro j ob m hj hob hm
      exact iv.away q o l hqD (Nat.le_refl _) ho hHR p2 j ob m hj hob (hold j m hm)
    · rw [htake, p1]
      refine ⟨iv.gr.os, iv.gr.tape, iv.gr.output, iv.gr.size, iv.gr.frame, ?_, ?_, iv.gr.ctl⟩ <;>
      · intro j oj lj h1 h2 h3
        rcases append_cases h1 with ⟨g1, g2⟩ | ⟨g1, g2⟩
        · rw [List.getElem?_append_left (by rw [iv.hk.len]; exact g1)] at h3
          first | exact iv.gr.owns j oj lj g2 h2 h3 | exact iv.gr.lives j oj lj g2 h2 h3
        · subst g1
          rw [← iv.hk.len] at h3; simp at h3; subst h3
          exact .inl p8
    · intro k ok hk hok hkr
      rcases Nat.lt_or_ge k q with hkq | hkq
      · exact iv.before k ok hkq hok hkr
      · have : k = q := by omega
        subst this; exact hqD
    · intro i oi hi hqi hoi hir
      exact iv.pend i oi hi (by omega) hoi hir
    · intro j m hj hm
      obtain ⟨i, oi, g1, g2, g3, g4, g5⟩ := iv.free j m (by omega) hm
      refine ⟨i, oi, g1, ?_, g3, g4, g5⟩
      rcases Nat.lt_or_ge q i with hqi | hqi
      · exact hqi
      · have : i = q := by omega
        subst this
        unfold pid at g5; omega
    · intro i oi li hi hqi hoi hir hli j ob m hj hob hm
      rw [p1] at hj
      rcases append_cases hj with ⟨g1, g2⟩ | ⟨g1, g2⟩
      · exact iv.away i oi li hi (by omega) hoi hir hli j ob m g2 hob hm
      · subst g1
        have e1 : σ[(c.hp q).length]? = some (some l) := p2
        rw [e1] at hm; simp only [Option.some.injEq] at hm; subst hm
        exact iv.apart q i o oi l li hqD hi (Nat.le_refl _) (by omega) ho hoi hHR hir (by omega) p2 hli
    · intro i i' oi oi' li li' a1 a2 a3 a4
      exact iv.apart i i' oi oi' li li' a1 a2 (by omega) (by omega)
  · have e := hp_quiet (hruns q o ho) hHR
    refine ⟨hlt, by rw [e]; exact iv.len, iv.up, by rw [e]; exact iv.hk, by rw [e]; exact iv.gr, iv.ag, ?_, ?_, ?_, ?_, ?_, iv.tok, iv.defers, iv.size⟩
    · intro k ok hk hok hkr
      rcases Nat.lt_or_ge k q with hkq | hkq
      · exact iv.before k ok hkq hok hkr
      · have : k = q := by omega
        subst this
        rw [ho] at hok; simp only [Option.some.injEq] at hok; subst hok
        exact (hHR hkr).elim
    · intro i oi hi hqi hoi hir
      exact iv.pend i oi hi (by omega) hoi hir
    · intro j m hj hm
      rw [e] at hj
      obtain ⟨i, oi, g1, g2, g3, g4, g5⟩ := iv.free j m hj hm
      refine ⟨i, oi, g1, ?_, g3, g4, g5⟩
      rcases Nat.lt_or_ge q i with hqi | hqi
      · exact hqi
      · have : i = q := by omega
        subst this
        rw [ho] at g3; simp only [Option.some.injEq] at g3; subst g3
        exact (hHR g4).elim
    · intro i oi li hi hqi hoi hir hli j ob m hj hob hm
      rw [e] at hj
      exact iv.away i oi li hi (by omega) hoi hir hli j ob m hj hob hm
    · intro i i' oi oi' li li' a1 a2 a3 a4
      exact iv.apart i i' oi oi' li li' a1 a2 (by omega) (by omega)

theorem Inv.advance_to (hruns : ∀ (j : Nat) (o : AO), al[j]? = some o → c.Runs P o j) : ∀ (n : Nat) {q : Nat}, Inv P rnd c al t0 B n0 sz σ0 h0 w0 D q σ w a → q + n ≤ al.length →
    (∀ (k : Nat) (o : AO), q ≤ k → k < q + n → al[k]? = some o → c.HR o.op k → k ∈ D) → Inv P rnd c al t0 B n0 sz σ0 h0 w0 D (q + n) σ w a
  | 0, _, iv, _, _ => iv
  | n + 1, q, iv, hle, h => by
    have hq : al[q]? = some (al[q]'(by omega)) := by simp
    have := iv.advance hruns hq (fun hr => h q _ (Nat.le_refl _) (by omega) hq hr)
    have := Inv.advance_to hruns n this (by omega) (fun k o h1 h2 => h k o (by omega) (by omega))
    rw [show q + (n + 1) = q + 1 + n by omega]; exact this

theorem Inv.normal (hruns : ∀ (j : Nat) (o : AO), al[j]? = some o → c.Runs P o j) (iv : Inv P rnd c al t0 B n0 sz σ0 h0 w0 D q σ w a) :
    ∃ q', Inv P rnd c al t0 B n0 sz σ0 h0 w0 D q' σ w a ∧ (q' = al.length ∨ ∃ o, al[q']? = some o ∧ c.HR o.op q' ∧ q' ∉ D) := by
  have key : ∀ (m q : Nat), al.length - q = m → Inv P rnd c al t0 B n0 sz σ0 h0 w0 D q σ w a → ∃ q', Inv P rnd c al t0 B n0 sz σ0 h0 w0 D q' σ w a ∧ (q' = al.length ∨ ∃ o, al[q']? = some o ∧ c.HR o.op q' ∧ q' ∉ D) := by
    intro m
    induction m with
    | zero => intro q hm iv; exact ⟨q, iv, .inl (by have := iv.qle; omega)⟩
    | succ m ih =>
      intro q hm iv
      have hlt : q < al.length := by omega
      have ho : al[q]? = some al[q] := by simp
      by_cases hH : c.HR (al[q]).op q ∧ q ∉ D
      · exact ⟨q, iv, .inr ⟨al[q], ho, hH⟩⟩
      · exact ih (q + 1) (by omega) (iv.advance hruns ho (fun hr => Classical.byContradiction fun hn => hH ⟨hr, hn⟩))
  exact key _ q rfl iv

theorem Inv.padded (iv : Inv P rnd c al t0 B n0 sz σ0 h0 w0 D q σ w a) : HeapOK P B σ (c.hp q ++ List.replicate (σ.drop (c.hp q).length).length .dead) w := by
  have := iv.hk.pad (σ.drop (c.hp q).length)
  rwa [List.take_append_drop] at this

theorem rep_dead {n i : Nat} {o : AObj} (h : (List.replicate n AObj.dead)[i]? = some o) : o = .dead := by
  rw [List.getElem?_replicate] at h
  split at h
  · simp only [Option.some.injEq] at h; exact h.symm
  · cases h

theorem Inv.unowned (iv : Inv P rnd c al t0 B n0 sz σ0 h0 w0 D q σ w a) {i : Nat} {o : AO} {l : Loc} (hi : i ∈ D) (hq : q ≤ i) (ho : al[i]? = some o) (hr : c.HR o.op i) (hl : σ[pid c i]? = some (some l)) :
    ∀ (j : Nat) (ob : AObj) (m : Loc), (c.hp q ++ List.replicate (σ.drop (c.hp q).length).length AObj.dead)[j]? = some ob → ob.isOwn = true → σ[j]? = some (some m) → m.blk ≠ l.blk := by
  intro j ob m hj hob hm
  rcases Nat.lt_or_ge j (c.hp q).length with h' | h'
  · rw [List.getElem?_append_left h'] at hj
    exact iv.away i o l hi hq ho hr hl j ob m hj (by cases ob <;> simp_all [AObj.isOwn, AObj.live]) hm
  · rw [List.getElem?_append_right h'] at hj
    have := rep_dead hj
    subst this; simp [AObj.isOwn] at hob

theorem Inv.quiet (iv : Inv P rnd c al t0 B n0 sz σ0 h0 w0 D q σ w a) {i : Nat} {o : AO} (ho : al[i]? = some o) (hn : ¬ c.HR o.op i) {w' : World} {a' : Act}
    (hk' : HeapOK P B σ (c.hp q ++ List.replicate (σ.drop (c.hp q).length).length .dead) w')
    (hg : Grow σ (c.hp q ++ List.replicate (σ.drop (c.hp q).length).length .dead) w σ (c.hp q ++ List.replicate (σ.drop (c.hp q).length).length .dead) w')
    (htok : TOKD c al t0 σ (D ++ [i]) a') (hd : Kept rnd a' w') (hs : a'.tmps.size = sz) : Inv P rnd c al t0 B n0 sz σ0 h0 w0 (D ++ [i]) q σ w' a' := by
  have mem : ∀ (j : Nat) (oj : AO), j ∈ D ++ [i] → al[j]? = some oj → c.HR oj.op j → j ∈ D := by
    intro j oj hj hoj hr
    rw [List.mem_append, List.mem_singleton] at hj
    rcases hj with hj | rfl
    · exact hj
    · rw [ho] at hoj; simp only [Option.some.injEq] at hoj; subst hoj; exact (hn hr).elim
  refine ⟨iv.qle, iv.len, iv.up, hk'.cut iv.hk.closed, ?_, iv.ag, ?_, ?_, ?_, ?_, ?_, htok, hd, hs⟩
  · exact iv.gr.trans (hg.cut (fun _ _ h => rep_dead h) (fun _ _ => rfl) iv.len)
  · intro k ok hk hok hkr; exact List.mem_append_left _ (iv.before k ok hk hok hkr)
  · intro j oj hj hqj hoj hr
    obtain ⟨g1, cs, l, ob0, p1, p2, p3, p4, p6, p7, p8⟩ := iv.pend j oj (mem j oj hj hoj hr) hqj hoj hr
    refine ⟨g1, cs, l, ob0, p1, p2, p3, ?_, p6, p7, p8⟩
    rw [hg.frame l.blk (Array.getElem?_eq_some_iff.1 p4).1 (iv.unowned (mem j oj hj hoj hr) hqj hoj hr p2)]
    exact p4
  · intro j l hj hl
    obtain ⟨k, ok, k1, k2⟩ := iv.free j l hj hl
    exact ⟨k, ok, List.mem_append_left _ k1, k2⟩
  · intro j oj l hj hqj hoj hr; exact iv.away j oj l (mem j oj hj hoj hr) hqj hoj hr
  · intro j j' oj oj' l l' hj hj' b1 b2 b3 b4 b5 b6; exact iv.apart j j' oj oj' l l' (mem j oj hj b3 b5) (mem j' oj' hj' b4 b6) b1 b2 b3 b4 b5 b6

def place (σ : Sg) (p : Nat) (l : Loc) : Sg := (List.range (max σ.length (p + 1))).map fun j => if j = p then some l else (σ[j]?).getD none
theorem place_len (σ : Sg) (p : Nat) (l : Loc) : (place σ p l).length = max σ.length (p + 1) := by simp [place]
theorem place_at (σ : Sg) (p : Nat) (l : Loc) : (place σ p l)[p]? = some (some l) := by
  unfold place
  rw [List.getElem?_map, List.getElem?_range (by omega)]
  simp
theorem place_ne (σ : Sg) {p j : Nat} (l : Loc) (h : j ≠ p) (hj : j < σ.length) : (place σ p l)[j]? = σ[j]? := by
  unfold place
  rw [List.getElem?_map, List.getElem?_range (by omega)]
  simp [h, hj]
theorem place_some {σ : Sg} {p j : Nat} {l m : Loc} (h : (place σ p l)[j]? = some (some m)) : j = p ∧ m = l ∨ j ≠ p ∧ σ[j]? = some (some m) := by
  have hj := get_some_lt h
  rw [place_len] at hj
  unfold place at h
  rw [List.getElem?_map, List.getElem?_range hj] at h
  simp only [Option.map_some, Option.some.injEq] at h
  by_cases hp : j = p
  · subst hp; simp only [if_true, Option.some.injEq] at h; exact .inl ⟨rfl, h.symm⟩
  · simp only [hp, if_false] at h
    refine .inr ⟨hp, ?_⟩
    cases hσ : σ[j]? with
    | none => rw [hσ] at h; cases h
    | some x => rw [hσ] at h; simp only [Option.getD_some] at h; rw [h]

theorem pid_inj (hruns : ∀ (j : Nat) (o : AO), al[j]? = some o → c.Runs P o j) {i j : Nat} {oi oj : AO} (hi : al[i]? = some oi) (hj : al[j]? = some oj) (ci : oi.op.cls = 2) (cj : oj.op.cls = 2) (si : c.sk i = false) (sj : c.sk j = false)
    (h : pid c i = pid c j) : i = j := by
  have key : ∀ {i j : Nat} {oi oj : AO}, al[i]? = some oi → al[j]? = some oj → oi.op.cls = 2 → c.sk i = false → i < j → pid c i < pid c j := by
    intro i j oi oj hi hj ci si hlt
    obtain ⟨cs, f, _, _, g3, _⟩ := made_hp (hruns i oi hi) ci si
    have h1 := hp_mono hruns (show i + 1 ≤ j by omega) (by have := get_some_lt hj; omega)
    rw [g3] at h1
    unfold pid
    simp at h1; omega
  rcases Nat.lt_trichotomy i j with h' | h' | h'
  · have := key hi hj ci si h'; omega
  · exact h'
  · have := key hj hi cj sj h'; omega

theorem Inv.make (hruns : ∀ (j : Nat) (o : AO), al[j]? = some o → c.Runs P o j) (iv : Inv P rnd c al t0 B n0 sz σ0 h0 w0 D q σ w a) {i : Nat} {o : AO} (ho : al[i]? = some o) (hr : c.HR o.op i) (hcls : o.op.cls = 2) (hD : i ∉ D) (hqi : q ≤ i)
    (hn0 : n0 ≤ (c.hp q).length) {cs : Option (List AV)} {ob : Obj} {tot : Nat} (hp : c.hp (i + 1) = c.hp i ++ [MObj cs]) (hrel : MRel (σ.take (pid c i)) cs ob tot) :
    Ext σ (place σ (pid c i) ⟨w.heap.size, 0, tot⟩) ∧ ∀ (a' : Act), TOKD c al t0 (place σ (pid c i) ⟨w.heap.size, 0, tot⟩) (D ++ [i]) a' → Kept rnd a' (w.alloc ob) → a'.tmps.size = sz → Inv P rnd c al t0 B n0 sz σ0 h0 w0 (D ++ [i]) q (place σ (pid c i) ⟨w.heap.size, 0, tot⟩) (w.alloc ob) a' := by
  have hlt := get_some_lt ho
  have hpq : (c.hp q).length ≤ pid c i := hp_mono hruns hqi (by omega)
  have hnew : ∀ (l : Loc), σ[pid c i]? ≠ some (some l) := by
    intro l hl
    obtain ⟨j, oj, j1, j2, j3, j4, j5⟩ := iv.free (pid c i) l hpq hl
    have hc2 := (iv.pend j oj j1 j2 j3 j4).1
    have := pid_inj hruns ho j3 hcls hc2 hr.2 j4.2 j5
    subst this; exact hD j1
  have hext : Ext σ (place σ (pid c i) ⟨w.heap.size, 0, tot⟩) := by
    refine ⟨by rw [place_len]; omega, fun j l hj => ?_⟩
    have hne : j ≠ pid c i := fun e => hnew l (e ▸ hj)
    rw [place_ne σ _ hne (get_some_lt hj)]; exact hj
  have htk : ∀ m, m ≤ pid c i → m ≤ σ.length → (place σ (pid c i) ⟨w.heap.size, 0, tot⟩).take m = σ.take m := by
    intro m hm hm'
    apply List.ext_getElem?
    intro j
    rw [List.getElem?_take, List.getElem?_take]
    split
    · rename_i hj
      exact place_ne σ _ (by omega) (by omega)
    · rfl
  have htake := htk _ hpq iv.len
  have hup : (c.hp (i + 1)).length = pid c i + 1 := by rw [hp]; simp [pid]
  have hupn := hp_mono hruns (show i + 1 ≤ al.length by omega) (Nat.le_refl _)
  have hblk : ∀ (j : Nat) (ob : AObj) (m : Loc), (c.hp q)[j]? = some ob → ob.live = true → σ[j]? = some (some m) → m.blk < w.heap.size := by
    intro j ob m hj hob hm
    exact iv.hk.blk_lt hj (by rw [take_get (get_some_lt hj)]; exact hm) hob
  refine ⟨hext, fun a' htok hd hs => ⟨iv.qle, by rw [place_len]; have := iv.len; omega, by rw [place_len]; have := iv.up; omega, ?_, ?_, ?_, ?_, ?_, ?_, ?_, ?_, htok, hd, hs⟩⟩
  · rw [htake]
    refine ⟨iv.hk.len, by simp; have := iv.hk.low; omega, fun j ob l hj hl => (iv.hk.obj j ob l hj hl).world (by simp) (fun l' e' hv => ?_), iv.hk.uniq⟩
    subst e'
    exact Below.heap_alloc _ _ _ (iv.hk.blk_lt hj hl hv)
  · rw [htake]; exact iv.gr.trans (Grow.beside _ _ _ _)
  · intro j hj
    rw [place_ne σ _ (by omega) (by have := iv.len; omega)]; exact iv.ag j hj
  · intro k ok hk hok hkr; exact List.mem_append_left _ (iv.before k ok hk hok hkr)
  · intro j oj hj hqj hoj hjr
    rw [List.mem_append, List.mem_singleton] at hj
    rcases hj with hj | rfl
    · obtain ⟨g1, cs', l, ob0, p1, p2, p3, p4, p6, p7, p8⟩ := iv.pend j oj hj hqj hoj hjr
      refine ⟨g1, cs', l, ob0, p1, hext.2 _ _ p2, p3, ?_, MRel.mono (hext.take _) p6, p7, p8⟩
      rw [Below.heap_alloc _ _ _ (Array.getElem?_eq_some_iff.1 p4).1]; exact p4
    · rw [ho] at hoj; simp only [Option.some.injEq] at hoj; subst hoj
      refine ⟨hcls, cs, ⟨w.heap.size, 0, tot⟩, ob, hp, place_at _ _ _, rfl, ?_, MRel.mono (hext.take _) hrel, iv.hk.low, iv.gr.size⟩
      show (w.heap.push _)[w.heap.size]? = _
      simp
  · intro j l hj hl
    rcases place_some hl with ⟨h1, _⟩ | ⟨h1, h2⟩
    · exact ⟨i, o, by simp, hqi, ho, hr, h1⟩
    · obtain ⟨k, ok, k1, k2⟩ := iv.free j l hj h2
      exact ⟨k, ok, List.mem_append_left _ k1, k2⟩
  · intro j oj l hj hqj hoj hjr hl k ob m hk hob hm
    have hkl := get_some_lt hk
    rw [place_ne σ _ (by omega) (by have := iv.len; omega)] at hm
    rw [List.mem_append, List.mem_singleton] at hj
    rcases place_some hl with ⟨h1, h2⟩ | ⟨h1, h2⟩
    · have := hblk k ob m hk hob hm
      rw [h2]; simp; omega
    · rcases hj with hj | rfl
      · exact iv.away j oj l hj hqj hoj hjr h2 k ob m hk hob hm
      · exact (h1 rfl).elim
  · intro j j' oj oj' l l' hj hj' hqj hqj' hoj hoj' hjr hjr' hne hl hl'
    rw [List.mem_append, List.mem_singleton] at hj hj'
    have old : ∀ (k : Nat) (ok : AO) (m : Loc), k ∈ D → q ≤ k → al[k]? = some ok → c.HR ok.op k → σ[pid c k]? = some (some m) → m.blk < w.heap.size := by
      intro k ok m k1 k2 k3 k4 k5
      obtain ⟨g1, cs', l, ob0, p1, p2, p3, p4, _⟩ := iv.pend k ok k1 k2 k3 k4
      rw [p2] at k5; simp only [Option.some.injEq] at k5; subst k5
      exact (Array.getElem?_eq_some_iff.1 p4).1
    have conv : ∀ (k : Nat) (ok : AO) (m : Loc), k ∈ D → q ≤ k → al[k]? = some ok → c.HR ok.op k → (place σ (pid c i) ⟨w.heap.size, 0, tot⟩)[pid c k]? = some (some m) → σ[pid c k]? = some (some m) := by
      intro k ok m k1 k2 k3 k4 k5
      obtain ⟨g1, cs', l, ob0, p1, p2, p3, p4, _⟩ := iv.pend k ok k1 k2 k3 k4
      have := hext.2 _ _ p2
      rw [this] at k5; simp only [Option.some.injEq] at k5; subst k5; exact p2
    rcases hj with hj | rfl <;> rcases hj' with hj' | rfl
    · exact iv.apart j j' oj oj' l l' hj hj' hqj hqj' hoj hoj' hjr hjr' hne (conv j oj l hj hqj hoj hjr hl) (conv j' oj' l' hj' hqj' hoj' hjr' hl')
    · have h1 := old j oj l hj hqj hoj hjr (conv j oj l hj hqj hoj hjr hl)
      rw [place_at] at hl'; simp only [Option.some.injEq] at hl'; subst hl'
      simp; omega
    · have h1 := old j' oj' l' hj' hqj' hoj' hjr' (conv j' oj' l' hj' hqj' hoj' hjr' hl')
      rw [place_at] at hl; simp only [Option.some.injEq] at hl; subst hl
      simp; omega
    · exact (hne rfl).elim

theorem Inv.effect (hruns : ∀ (j : Nat) (o : AO), al[j]? = some o → c.Runs P o j) {i : Nat} (iv : Inv P rnd c al t0 B n0 sz σ0 h0 w0 D i σ w a) {o : AO} (ho : al[i]? = some o) (hD : i ∉ D)
    (hn0 : n0 ≤ (c.hp i).length) {τ : Sg} {w' : World} (hk' : HeapOK P B (σ.take (c.hp i).length ++ τ) (c.hp (i + 1)) w') (hg : Grow (σ.take (c.hp i).length) (c.hp i) w (σ.take (c.hp i).length ++ τ) (c.hp (i + 1)) w') :
    ∃ σ', Ext σ σ' ∧ Ext (σ.take (c.hp i).length ++ τ) σ' ∧ ∀ (a' : Act), TOKD c al t0 σ' (D ++ [i]) a' → Kept rnd a' w' → a'.tmps.size = sz → Inv P rnd c al t0 B n0 sz σ0 h0 w0 (D ++ [i]) (i + 1) σ' w' a' := by
  have hlt := get_some_lt ho
  have hL : (σ.take (c.hp i).length ++ τ).length = (c.hp (i + 1)).length := hk'.len
  have hmono := hp_step (hruns i o ho)
  have htl : (σ.take (c.hp i).length).length = (c.hp i).length := by have := iv.len; simp; omega
  have later : ∀ (j : Nat) (oj : AO), j ∈ D → i ≤ j → al[j]? = some oj → i + 1 ≤ j ∧ (c.hp (i + 1)).length ≤ pid c j := by
    intro j oj hj hij hoj
    have hne : j ≠ i := fun e => hD (e ▸ hj)
    have h1 : i + 1 ≤ j := by omega
    exact ⟨h1, hp_mono hruns h1 (by have := get_some_lt hoj; omega)⟩
  -- the places behind stay
  have hhi : ∀ j, (c.hp (i + 1)).length ≤ j → ((σ.take (c.hp i).length ++ τ) ++ σ.drop (c.hp (i + 1)).length)[j]? = σ[j]? := by
    intro j hj
    rw [List.getElem?_append_right (by omega), hL, List.getElem?_drop]
    congr 1; omega
  have hlo : ∀ j, j < (c.hp (i + 1)).length → ((σ.take (c.hp i).length ++ τ) ++ σ.drop (c.hp (i + 1)).length)[j]? = (σ.take (c.hp i).length ++ τ)[j]? := fun j hj => by
    rw [List.getElem?_append_left (by omega)]
  have hlo' : ∀ j, j < (c.hp i).length → ((σ.take (c.hp i).length ++ τ) ++ σ.drop (c.hp (i + 1)).length)[j]? = σ[j]? := fun j hj => by
    rw [hlo j (by omega), List.getElem?_append_left (by omega), take_get hj]
  have hext : Ext σ ((σ.take (c.hp i).length ++ τ) ++ σ.drop (c.hp (i + 1)).length) := by
    refine ⟨by rw [List.length_append, hL, List.length_drop]; omega, fun j l hj => ?_⟩
    rcases Nat.lt_or_ge j (c.hp i).length with h' | h'
    · rw [hlo' j h']; exact hj
    · obtain ⟨k, ok, k1, k2, k3, k4, k5⟩ := iv.free j l h' hj
      have := (later k ok k1 k2 k3).2
      rw [hhi j (by omega)]; exact hj
  have htake : ((σ.take (c.hp i).length ++ τ) ++ σ.drop (c.hp (i + 1)).length).take (c.hp (i + 1)).length = σ.take (c.hp i).length ++ τ := by
    rw [← hL, List.take_left]
  have hupn := hp_mono hruns (show i + 1 ≤ al.length by omega) (Nat.le_refl _)
  refine ⟨_, hext, Ext.app _ _, fun a' htok hd hs => ⟨by omega, ?_, ?_, ?_, ?_, ?_, ?_, ?_, ?_, ?_, ?_, htok, hd, hs⟩⟩
  · rw [List.length_append, hL]; omega
  · rw [List.length_append, hL, List.length_drop]; have := iv.up; omega
  · rw [htake]; exact hk'
  · rw [htake]; exact iv.gr.trans hg
  · intro j hj
    rw [hlo' j (by omega)]; exact iv.ag j hj
  · intro k ok hk hok hkr
    rcases Nat.lt_or_ge k i with h' | h'
    · exact List.mem_append_left _ (iv.before k ok h' hok hkr)
    · have : k = i := by omega
      subst this; simp
  · intro j oj hj hqj hoj hjr
    rw [List.mem_append, List.mem_singleton] at hj
    rcases hj with hj | rfl
    · obtain ⟨g1, cs', l, ob0, p1, p2, p3, p4, p6, p7, p8⟩ := iv.pend j oj hj (by omega) hoj hjr
      refine ⟨g1, cs', l, ob0, p1, hext.2 _ _ p2, p3, ?_, MRel.mono (hext.take _) p6, p7, p8⟩
      rw [hg.frame l.blk (Array.getElem?_eq_some_iff.1 p4).1 ?_]
      · exact p4
      · intro k ob m hk hob hm
        exact iv.away j oj l hj (by omega) hoj hjr p2 k ob m hk (by cases ob <;> simp_all [AObj.isOwn, AObj.live]) (by rw [take_get (get_some_lt hk)] at hm; exact hm)
    · omega
  · intro j l hj hl
    rw [hhi j hj] at hl
    obtain ⟨k, ok, k1, k2, k3, k4, k5⟩ := iv.free j l (by omega) hl
    exact ⟨k, ok, List.mem_append_left _ k1, (later k ok k1 k2 k3).1, k3, k4, k5⟩
  · intro j oj l hj hqj hoj hjr hl k ob m hk hob hm
    rw [List.mem_append, List.mem_singleton] at hj
    rcases hj with hj | rfl
    · have hpj := (later j oj hj (by omega) hoj).2
      rw [hhi _ hpj] at hl
      have hkl := get_some_lt hk
      rw [hlo k hkl] at hm
      rcases hg.lives k ob m hk hob hm with hge | ⟨j2, p2, m2, q1, q2, q3, q4⟩
      · obtain ⟨g1, cs', l', ob0, p1, p2, p3, p4, _⟩ := iv.pend j oj hj (by omega) hoj hjr
        rw [p2] at hl; simp only [Option.some.injEq] at hl; subst hl
        have := (Array.getElem?_eq_some_iff.1 p4).1
        omega
      · rw [← q4]
        exact iv.away j oj l hj (by omega) hoj hjr hl j2 p2 m2 q1 q2 (by rw [take_get (get_some_lt q1)] at q3; exact q3)
    · omega
  · intro j j' oj oj' l l' hj hj' hqj hqj' hoj hoj' hjr hjr' hne hl hl'
    rw [List.mem_append, List.mem_singleton] at hj hj'
    rcases hj with hj | rfl
    · rcases hj' with hj' | rfl
      · have h1 := (later j oj hj (by omega) hoj).2
        have h2 := (later j' oj' hj' (by omega) hoj').2
        rw [hhi _ h1] at hl; rw [hhi _ h2] at hl'
        exact iv.apart j j' oj oj' l l' hj hj' (by omega) (by omega) hoj hoj' hjr hjr' hne hl hl'
      · omega
    · omega
end
end Go.Abs
