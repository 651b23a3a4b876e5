/- A region in an order that it draws: what holds while it runs. -/
import Derived.Test.YtbfihdpmphlckaaA16
set_option linter.unusedSimpArgs false
set_option linter.unusedVariables false
namespace Go.Abs
open Go.RowKit

structure Static (P : Program) (sz : Nat) (ops : Array Oper) (al : List AO) (ps : List (List Nat)) : Prop where
  len : al.length = ops.size
  comp : ∀ (i : Nat) (o : Oper), ops[i]? = some o → ∃ ao, al[i]? = some ao ∧ cAO P sz ops o = some ao
  pre : ∀ (i : Nat) (o : Oper), ops[i]? = some o → ∀ k ∈ pr ps i, k < i ∧ ((∃ e ∈ o.after, Region.binds .any e = true ∧ e.on = k) ∨ ∃ e ∈ o.after, Region.binds .any e = true ∧ k ∈ pr ps e.on)
  dst : ∀ (i j : Nat) (oi oj : AO) (d : Nat), al[i]? = some oi → al[j]? = some oj → oi.dst = some d → oj.dst = some d → i = j
  use : ∀ (i k : Nat) (oi ok : AO) (d : Nat), al[i]? = some oi → al[k]? = some ok → d ∈ oi.slots → ok.dst = some d → k ∈ pr ps i ∨ i ∈ pr ps k
  chain : ∀ (i j : Nat) (oi oj : AO), al[i]? = some oi → al[j]? = some oj → i < j → 2 ≤ oi.op.cls → oj.op.cls = 3 → i ∈ pr ps j

section
variable {P : Program} {rnd : Rn} {sz : Nat} {ops : Array Oper} {al : List AO} {ps : List (List Nat)} {c : Cert} {K : St → Prop} {s : St}

def pid (c : Cert) (i : Nat) : Nat := (c.hp i).length

theorem made_hp {o : AO} {i : Nat} (hr : c.Runs P o i) (hcls : o.op.cls = 2) (hsk : c.sk i = false) :
    ∃ cs f, o.op.made (AOpd.ev (c.T i)) = some (cs, f) ∧ c.v i = f (pid c i) ∧ c.hp (i + 1) = c.hp i ++ [MObj cs] ∧ (o.op.slots.all fun k => (lk (c.T i) k).sc (c.hp i).length) = true := by
  rcases hr.2 with ⟨h1, _⟩ | ⟨_, _, ⟨h1, _⟩ | ⟨h1, _⟩ | ⟨_, h2, h3⟩ | ⟨h1, _⟩⟩
  · rw [hsk] at h1; cases h1
  · omega
  · omega
  · obtain ⟨cs, f, g1, g2, g3⟩ := sem_made hcls h2
    exact ⟨cs, f, g1, g2.symm, g3.symm, h3⟩
  · omega

theorem hp_step {o : AO} {i : Nat} (hr : c.Runs P o i) : (c.hp i).length ≤ (c.hp (i + 1)).length := by
  rcases hr.2 with ⟨_, _, h3, _⟩ | ⟨hsk, _, ⟨_, h2, _⟩ | ⟨_, h2⟩ | ⟨h1, _⟩ | ⟨_, _, h3, _⟩⟩
  · rw [h3]; exact Nat.le_refl _
  · rw [h2]; exact Nat.le_refl _
  · rw [h2]; exact Nat.le_refl _
  · obtain ⟨cs, f, _, _, g3, _⟩ := made_hp hr h1 hsk
    rw [g3]; simp
  · exact h3

theorem hp_mono (hruns : ∀ (j : Nat) (o : AO), al[j]? = some o → c.Runs P o j) : ∀ {i j : Nat}, i ≤ j → j ≤ al.length → (c.hp i).length ≤ (c.hp j).length := by
  intro i j hij
  induction hij with
  | refl => intro _; exact Nat.le_refl _
  | step h ih =>
    intro hle
    rename_i m
    have hm : m < al.length := hle
    exact Nat.le_trans (ih (by omega)) (hp_step (hruns m al[m] (by simp)))

theorem hp_quiet {o : AO} {i : Nat} (hr : c.Runs P o i) (hn : ¬ c.HR o.op i) : c.hp (i + 1) = c.hp i := by
  rcases hr.2 with ⟨_, _, h3, _⟩ | ⟨hsk, _, ⟨_, h2, _⟩ | ⟨_, h2⟩ | ⟨h1, _⟩ | ⟨h1, _⟩⟩
  · exact h3
  · exact h2
  · exact h2
  · exact (hn ⟨by omega, hsk⟩).elim
  · exact (hn ⟨by omega, hsk⟩).elim

theorem T_lk (hruns : ∀ (j : Nat) (o : AO), al[j]? = some o → c.Runs P o j) (hd : ∀ (i j : Nat) (oi oj : AO) (d : Nat), al[i]? = some oi → al[j]? = some oj → oi.dst = some d → oj.dst = some d → i = j)
    {t0 : List (Nat × AV)} (h0 : c.T 0 = t0) : ∀ (j : Nat), j ≤ al.length → ∀ k,
      (∀ (i : Nat) (o : AO), i < j → al[i]? = some o → o.dst = some k → lk (c.T j) k = c.v i) ∧ ((∀ (i : Nat) (o : AO), i < j → al[i]? = some o → o.dst ≠ some k) → lk (c.T j) k = lk t0 k)
  | 0, _, k => ⟨fun i o hi => by omega, fun _ => by rw [h0]⟩
  | j + 1, hj, k => by
    obtain ⟨ih1, ih2⟩ := T_lk hruns hd h0 j (by omega) k
    have ho : al[j]? = some al[j] := by simp
    have hT := (hruns j al[j] ho).1
    cases hdst : (al[j]).dst with
    | none =>
      rw [hdst] at hT
      rw [hT]
      refine ⟨fun i o hi hio hk => ?_, fun h => ih2 fun i o hi hio => h i o (by omega) hio⟩
      rcases Nat.lt_or_ge i j with h | h
      · exact ih1 i o h hio hk
      · have : i = j := by omega
        subst this
        rw [ho] at hio; simp only [Option.some.injEq] at hio; subst hio
        rw [hdst] at hk; cases hk
    | some d =>
      rw [hdst] at hT
      rw [hT]
      simp only [lk]
      by_cases hdk : d = k
      · subst hdk
        simp only [if_true]
        refine ⟨fun i o hi hio hk => ?_, fun h => (h j al[j] (by omega) ho hdst).elim⟩
        have := hd i j o al[j] d hio ho hk hdst
        subst this; rfl
      · simp only [hdk, if_false]
        refine ⟨fun i o hi hio hk => ?_, fun h => ih2 fun i o hi hio => h i o (by omega) hio⟩
        rcases Nat.lt_or_ge i j with h | h
        · exact ih1 i o h hio hk
        · have : i = j := by omega
          subst this
          rw [ho] at hio; simp only [Option.some.injEq] at hio; subst hio
          rw [hdst] at hk; simp only [Option.some.injEq] at hk; exact (hdk hk).elim

def TOKD (c : Cert) (al : List AO) (t0 : List (Nat × AV)) (σ : Sg) (D : List Nat) (a : Act) : Prop := ∀ k,
  (∀ (i : Nat) (o : AO), i ∈ D → al[i]? = some o → o.dst = some k → Rel σ (c.v i) (a.tmps.getD k undef)) ∧ ((∀ (i : Nat) (o : AO), i ∈ D → al[i]? = some o → o.dst ≠ some k) → Rel σ (lk t0 k) (a.tmps.getD k undef))

theorem TOKD.mono {t0 : List (Nat × AV)} {σ σ' : Sg} {D : List Nat} {a : Act} (he : Ext σ σ') (h : TOKD c al t0 σ D a) : TOKD c al t0 σ' D a :=
  fun k => ⟨fun i o hi ho hk => Rel.mono he _ _ ((h k).1 i o hi ho hk), fun hn => Rel.mono he _ _ ((h k).2 hn)⟩

theorem TOKD.put {t0 : List (Nat × AV)} {σ : Sg} {D : List Nat} {a : Act} {i : Nat} {o : AO} {x : Value} (hd : ∀ (i j : Nat) (oi oj : AO) (d : Nat), al[i]? = some oi → al[j]? = some oj → oi.dst = some d → oj.dst = some d → i = j)
    (h : TOKD c al t0 σ D a) (ho : al[i]? = some o) (hsz : ∀ d, o.dst = some d → d < a.tmps.size) (hx : Rel σ (c.v i) x) : TOKD c al t0 σ (D ++ [i]) (a.put o.dst x) := by
  intro k
  have hget : ∀ d, o.dst = some d → d ≠ k → (a.put o.dst x).tmps.getD k undef = a.tmps.getD k undef := by
    intro d hdd hne
    rw [hdd]
    simp only [Act.put, Array.getD_eq_getD_getElem?, Array.getElem?_setIfInBounds, hne, if_false]
  have hnone : o.dst = none → (a.put o.dst x).tmps.getD k undef = a.tmps.getD k undef := by
    intro hdd; rw [hdd]; rfl
  have hsame : o.dst = some k → (a.put o.dst x).tmps.getD k undef = x := by
    intro hdd
    have := hsz k hdd
    rw [hdd]
    simp [Act.put, Array.getD, this]
  refine ⟨fun j oj hj hoj hk => ?_, fun hn => ?_⟩
  · rw [List.mem_append, List.mem_singleton] at hj
    rcases hj with hj | rfl
    · cases hdd : o.dst with
      | none => rw [← hdd, hnone hdd]; exact (h k).1 j oj hj hoj hk
      | some d =>
        by_cases hdk : d = k
        · subst hdk
          have := hd j i oj o d hoj ho hk hdd
          subst this
          rw [← hdd, hsame hdd]; exact hx
        · rw [← hdd, hget d hdd hdk]; exact (h k).1 j oj hj hoj hk
    · rw [ho] at hoj; simp only [Option.some.injEq] at hoj; subst hoj
      rw [hsame hk]; exact hx
  · have hne : o.dst ≠ some k := hn i o (by simp) ho
    have hold := (h k).2 fun j oj hj hoj => hn j oj (by simp [hj]) hoj
    cases hdd : o.dst with
    | none => rw [← hdd, hnone hdd]; exact hold
    | some d =>
      have hdk : d ≠ k := fun e => hne (by rw [hdd, e])
      rw [← hdd, hget d hdd hdk]; exact hold

theorem opnd (hs : Static P sz ops al ps) (hruns : ∀ (j : Nat) (o : AO), al[j]? = some o → c.Runs P o j) {t0 : List (Nat × AV)} (h0 : c.T 0 = t0) {σ : Sg} {D : List Nat} {a : Act} (h : TOKD c al t0 σ D a)
    {i : Nat} {o : AO} (ho : al[i]? = some o) (hD : i ∉ D) (hcl : ∀ j ∈ D, ∀ k ∈ pr ps j, k ∈ D) (hpre : ∀ k ∈ pr ps i, k ∈ D) :
    ∀ k ∈ o.slots, Rel σ (lk (c.T i) k) (a.tmps.getD k undef) := by
  intro k hk
  have hlt := get_some_lt ho
  obtain ⟨t1, t2⟩ := T_lk hruns hs.dst h0 i (by omega) k
  rcases Classical.em (∃ (j : Nat) (oj : AO), al[j]? = some oj ∧ oj.dst = some k) with ⟨j, oj, hj, hjk⟩ | hno
  · rcases hs.use i j o oj k ho hj hk hjk with hm | hm
    · have hops : ∃ op, ops[i]? = some op := ⟨ops[i]'(by rw [← hs.len]; exact hlt), by simp [hs.len ▸ hlt]⟩
      obtain ⟨op, hop⟩ := hops
      have hji := (hs.pre i op hop j hm).1
      rw [t1 j oj hji hj hjk]
      exact (h k).1 j oj (hpre j hm) hj hjk
    · have hjlt := get_some_lt hj
      have hops : ∃ op, ops[j]? = some op := ⟨ops[j]'(by rw [← hs.len]; exact hjlt), by simp [hs.len ▸ hjlt]⟩
      obtain ⟨op, hop⟩ := hops
      have hij := (hs.pre j op hop i hm).1
      have hjD : j ∉ D := fun hjD => hD (hcl j hjD i hm)
      rw [t2 (fun m om hm hom hmk => by have := hs.dst m j om oj k hom hj hmk hjk; omega)]
      exact (h k).2 fun m om hmD hom hmk => hjD (by have := hs.dst m j om oj k hom hj hmk hjk; rw [← this]; exact hmD)
  · rw [t2 (fun m om _ hom hmk => hno ⟨m, om, hom, hmk⟩)]
    exact (h k).2 fun m om _ hom hmk => hno ⟨m, om, hom, hmk⟩

def onlySlots (t : List (Nat × AV)) (ks : List Nat) : List (Nat × AV) := ks.map fun k => (k, lk t k)
theorem onlySlots_lk (t : List (Nat × AV)) : ∀ (ks : List Nat), (∀ k ∈ ks, lk t k = lk (onlySlots t ks) k)
  | [], _, h => by cases h
  | j :: ks, k, h => by
    simp only [onlySlots, List.map_cons, lk]
    by_cases hj : j = k
    · subst hj; simp
    · simp only [hj, if_false]
      rcases List.mem_cons.1 h with rfl | h
      · exact (hj rfl).elim
      · exact onlySlots_lk t ks k h

theorem onlySlots_tok {σ : Sg} {t : List (Nat × AV)} {ks : List Nat} {a : Act} (h : ∀ k ∈ ks, Rel σ (lk t k) (a.tmps.getD k undef)) : TOK σ (onlySlots t ks) a := by
  intro k
  rcases lk_prune t ks k with hj | hj
  · show Rel σ (lk (ks.map fun k => (k, lk t k)) k) _
    rw [hj]; trivial
  · show Rel σ (lk (ks.map fun k => (k, lk t k)) k) _
    by_cases hk : k ∈ ks
    · rw [hj]; exact h k hk
    · have : ∀ (ks : List Nat), k ∉ ks → lk (ks.map fun k => (k, lk t k)) k = .junk := by
        intro ks; induction ks with
        | nil => intro _; rfl
        | cons m ms ih =>
          intro hm
          simp only [List.mem_cons, not_or] at hm
          simp only [List.map_cons, lk]
          have : ¬ m = k := fun e => hm.1 e.symm
          simp only [this, if_false]
          exact ih hm.2
      rw [this ks hk]; trivial

theorem eff_congr {op : AOp} {t t' : List (Nat × AV)} {h : Heap} {K : AV → Heap → Prop} (he : ∀ k ∈ op.slots, lk t k = lk t' k) (hs : op.eff P ⟨t, h⟩ K) : op.eff P ⟨t', h⟩ K := by
  cases op
  case callF f args =>
    obtain ⟨v, h', h1, h2⟩ := hs
    simp only [AOp.slots] at he
    refine ⟨v, h', ?_, h2⟩
    show ACalls P f (args.map (AOpd.ev t')) h _
    rw [← evs_congr he]; exact h1
  case callV f args =>
    simp only [AOp.slots, List.mem_append] at he
    simp only [AOp.eff] at hs ⊢
    rw [← ev_congr (x := f) (fun k hk => he k (.inl hk)), ← evs_congr (xs := args) (fun k hk => he k (.inr hk))]
    exact hs
  case bad => exact hs
  all_goals exact sem_congr he hs

theorem sem_eff {op : AOp} {s : St} {K : AV → Heap → Prop} (hc : op.cls ≠ 3) (h : op.sem (AOpd.ev s.t) s.h K) : op.eff P s K := by
  cases op <;> first | exact h | (simp [AOp.cls] at hc; done)

theorem rel_take {σ : Sg} {m : Nat} {v : AV} {x : Value} (hs : v.sc m = true) (h : Rel σ v x) (hm : m ≤ σ.length) : Rel (σ.take m) v x := by
  have h1 := rel_ren (σ := σ) (ρ := id) v x hs (by rw [ren_id (ρ := id) (m := m) (fun _ _ => rfl) v hs]; exact h)
  have : sgOf σ id m = σ.take m := by
    apply List.ext_getElem?
    intro i
    rw [List.getElem?_take]
    split
    · rename_i hi
      rw [sgOf_get hi]
      have : i < σ.length := by omega
      simp [List.getD, this]
    · rename_i hi
      rw [List.getElem?_eq_none]
      simp [sgOf]; omega
  rw [← this]; exact h1

theorem sgOf_take {σ : Sg} {m : Nat} (hm : m ≤ σ.length) : sgOf σ id m = σ.take m := by
  apply List.ext_getElem?
  intro i
  rw [List.getElem?_take]
  split
  · rename_i hi
    rw [sgOf_get hi]
    have : i < σ.length := by omega
    simp [List.getD, this]
  · rename_i hi
    rw [List.getElem?_eq_none]
    simp [sgOf]; omega
theorem ook_take {σ : Sg} {m : Nat} {x : OObj} {o : Option Obj} (hs : x.sc m = true) (h : OOK P σ x o) (hm : m ≤ σ.length) : OOK P (σ.take m) x o := by
  have h1 := ook_ren (P := P) (σ := σ) (ρ := id) x o hs (by rw [oren_id (ρ := id) (m := m) (fun _ _ => rfl) x hs]; exact h)
  rw [← sgOf_take hm]; exact h1

theorem HeapOK.cut {B : Nat} {σ : Sg} {h g : Heap} {w : World} (k : HeapOK P B σ (h ++ g) w) (hc : Closed h) : HeapOK P B (σ.take h.length) h w := by
  have hle : h.length ≤ σ.length := by rw [k.len]; simp
  have geth : ∀ (i : Nat) (o : AObj), h[i]? = some o → (h ++ g)[i]? = some o := fun i o hi => by rw [List.getElem?_append_left (get_some_lt hi)]; exact hi
  have gets : ∀ (i : Nat) (l : Option Loc), (σ.take h.length)[i]? = some l → σ[i]? = some l := fun i l hi => by
    rw [List.getElem?_take] at hi; split at hi
    · exact hi
    · cases hi
  refine ⟨by simp; omega, k.low, ?_, ?_⟩
  · intro i o l hi hl
    have := k.obj i o l (geth i o hi) (gets i l hl)
    have hsc := hc i o hi
    cases o with
    | dead => trivial
    | other x =>
      cases l with
      | none => exact this
      | some l =>
        obtain ⟨h0, h1, h2, h3⟩ := this
        exact ⟨h0, h1, h2, ook_take hsc h3 hle⟩
    | cells vs own =>
      cases l with
      | none => exact this
      | some l =>
        obtain ⟨h0, h1, h2⟩ := this
        refine ⟨h0, fun j v hj => ?_, h2⟩
        obtain ⟨x, hx1, hx2⟩ := h1 j v hj
        refine ⟨x, hx1, rel_take ?_ hx2 hle⟩
        have : ∀ (vs : List AV), scL h.length vs = true → ∀ (j : Nat) (v : AV), vs[j]? = some v → v.sc h.length = true := by
          intro vs; induction vs with
          | nil => intro _ j v hj; simp at hj
          | cons u vs ih =>
            intro hs j v hj
            simp only [scL, Bool.and_eq_true] at hs
            cases j with
            | zero => simp only [List.getElem?_cons_zero, Option.some.injEq] at hj; subst hj; exact hs.1
            | succ j => exact ih hs.2 j v (by simpa using hj)
        exact this vs hsc j v hj
  · intro i j oi oj li lj hi hj ho hv hli hlj hne
    exact k.uniq i j oi oj li lj (geth i oi hi) (geth j oj hj) ho hv (gets _ _ hli) (gets _ _ hlj) hne

theorem Grow.cut {σ σ' : Sg} {h g g' : Heap} {w w' : World} (k : Grow σ (h ++ g) w σ' (h ++ g') w') (hg : ∀ (i : Nat) (o : AObj), g[i]? = some o → o = .dead) (hs : ∀ i, i < h.length → σ'[i]? = σ[i]?) (hl : h.length ≤ σ.length) :
    Grow (σ.take h.length) h w (σ'.take h.length) h w' := by
  have back : ∀ (i : Nat) (o : AObj), (h ++ g)[i]? = some o → o.live = true → i < h.length ∧ h[i]? = some o := by
    intro i o hi hv
    rcases Nat.lt_or_ge i h.length with h' | h'
    · rw [List.getElem?_append_left h'] at hi; exact ⟨h', hi⟩
    · rw [List.getElem?_append_right h'] at hi
      have := hg _ _ hi
      subst this; simp [AObj.live] at hv
  have tk : ∀ i, i < h.length → (σ.take h.length)[i]? = σ[i]? := fun i hi => by rw [List.getElem?_take, if_pos hi]
  have tk' : ∀ i, i < h.length → (σ'.take h.length)[i]? = σ'[i]? := fun i hi => by rw [List.getElem?_take, if_pos hi]
  have own_live : ∀ (o : AObj), o.isOwn = true → o.live = true := fun o ho => by cases o <;> simp_all [AObj.isOwn, AObj.live]
  refine ⟨k.os, k.tape, k.output, k.size, ?_, ?_, ?_, k.ctl⟩
  · intro b hb hno
    refine k.frame b hb fun i o l h1 h2 h3 => ?_
    obtain ⟨g1, g2⟩ := back i o h1 (own_live o h2)
    exact hno i o l g2 h2 (by rw [tk i g1]; exact h3)
  · intro i o l h1 h2 h3
    have hi := get_some_lt h1
    rw [tk' i hi, hs i hi] at h3
    exact .inr ⟨i, o, l, h1, h2, by rw [tk i hi]; exact h3, rfl⟩
  · intro i o l h1 h2 h3
    have hi := get_some_lt h1
    rw [tk' i hi, hs i hi] at h3
    exact .inr ⟨i, o, l, h1, h2, by rw [tk i hi]; exact h3, rfl⟩
end
end Go.Abs
