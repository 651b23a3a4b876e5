/- States, what may be forgotten of them, calls, and code. -/
import Derived.Test.YtbfihdpmphlckaaA8
import Derived.Scope
set_option linter.unusedSimpArgs false
set_option linter.unusedVariables false
namespace Go.Abs
open Go.RowKit
variable {P : Program}

/-! ### Numbers of objects in values -/
mutual
theorem ren_id {ρ : Nat → Nat} {m : Nat} (hρ : ∀ i, i < m → ρ i = i) : ∀ (v : AV), v.sc m = true → v.ren ρ = v
  | .bool _, _ | .int _ _, _ | .str _, _ | .nil, _ | .nilslice, _ | .nilmap, _ | .nilfn, _ | .niliface, _ | .junk, _ => rfl
  | .ptr id off, h => by simp only [AV.sc, decide_eq_true_eq] at h; simp only [AV.ren, hρ id h]
  | .slice id _ _ _ _, h => by simp only [AV.sc, decide_eq_true_eq] at h; simp only [AV.ren, hρ id h]
  | .map id, h => by simp only [AV.sc, decide_eq_true_eq] at h; simp only [AV.ren, hρ id h]
  | .yield id, h => by simp only [AV.sc, decide_eq_true_eq] at h; simp only [AV.ren, hρ id h]
  | .fn f a b, h => by simp only [AV.sc, Bool.and_eq_true] at h; simp only [AV.ren, renL_id hρ a h.1, renL_id hρ b h.2]
  | .iface t v, h => by simp only [AV.sc] at h; simp only [AV.ren, ren_id hρ v h]
  | .agg cs, h => by simp only [AV.sc] at h; simp only [AV.ren, renL_id hρ cs h]
  | .tuple cs, h => by simp only [AV.sc] at h; simp only [AV.ren, renL_id hρ cs h]
theorem renL_id {ρ : Nat → Nat} {m : Nat} (hρ : ∀ i, i < m → ρ i = i) : ∀ (vs : List AV), scL m vs = true → renL ρ vs = vs
  | [], _ => rfl
  | v :: vs, h => by simp only [scL, Bool.and_eq_true] at h; simp only [renL, ren_id hρ v h.1, renL_id hρ vs h.2]
end

theorem lk_ren (ρ : Nat → Nat) : ∀ (t : List (Nat × AV)) (k : Nat), lk (tRen ρ t) k = (lk t k).ren ρ
  | [], _ => rfl
  | (j, v) :: t, k => by
    simp only [tRen, List.map_cons, lk]
    split
    · rfl
    · exact lk_ren ρ t k
theorem lk_sc {m : Nat} : ∀ {t : List (Nat × AV)}, tSc m t = true → ∀ k, (lk t k).sc m = true
  | [], _, _ => rfl
  | (j, v) :: t, h, k => by
    simp only [tSc, List.all_cons, Bool.and_eq_true] at h
    simp only [lk]
    split
    · exact h.1
    · exact lk_sc h.2 k
theorem tRen_id {ρ : Nat → Nat} {m : Nat} (hρ : ∀ i, i < m → ρ i = i) : ∀ {t : List (Nat × AV)}, tSc m t = true → tRen ρ t = t
  | [], _ => rfl
  | (j, v) :: t, h => by
    simp only [tSc, List.all_cons, Bool.and_eq_true] at h
    have := tRen_id hρ h.2
    simp only [tRen] at this
    simp only [tRen, List.map_cons, ren_id hρ v h.1, this]
theorem oren_id {ρ : Nat → Nat} {m : Nat} (hρ : ∀ i, i < m → ρ i = i) : ∀ (x : OObj), x.sc m = true → x.ren ρ = x
  | .iter none _ _ _, h => rfl
  | .iter (some id) _ _ _, h => by
    simp only [OObj.sc, decide_eq_true_eq] at h
    simp only [OObj.ren, Option.map_some, hρ id h]
  | .map es _ _, h => by
    simp only [OObj.ren]
    congr 1
    refine (List.map_congr_left fun p hp => ?_).trans (List.map_id es)
    have := List.all_eq_true.1 h p hp
    simp only [Bool.and_eq_true] at this
    simp only [ren_id hρ _ this.1, ren_id hρ _ this.2, id]
  | .loop t _ _ _ _, h => by simp only [OObj.ren, tRen_id hρ h]
theorem aren_id {ρ : Nat → Nat} {m : Nat} (hρ : ∀ i, i < m → ρ i = i) : ∀ (o : AObj), o.sc m = true → o.ren ρ = o
  | .dead, _ => rfl
  | .other x, h => by simp only [AObj.ren, oren_id hρ x h]
  | .cells vs _, h => by simp only [AObj.ren, renL_id hρ vs h]
theorem asc_mono {m m' : Nat} (h : m ≤ m') : ∀ (o : AObj), o.sc m = true → o.sc m' = true
  | .dead, _ => rfl
  | .other x, k => osc_mono h x k
  | .cells vs _, k => scL_mono h vs k

def sgOf (σ : Sg) (ρ : Nat → Nat) (m : Nat) : Sg := (List.range m).map fun i => σ.getD (ρ i) none
theorem sgOf_get {σ : Sg} {ρ : Nat → Nat} {m i : Nat} (hi : i < m) : (sgOf σ ρ m)[i]? = some (σ.getD (ρ i) none) := by
  simp [sgOf, hi]

mutual
theorem rel_ren {σ : Sg} {ρ : Nat → Nat} {m : Nat} : ∀ (v : AV) (c : Value), v.sc m = true → Rel σ (v.ren ρ) c → Rel (sgOf σ ρ m) v c
  | .bool _, _, _, h | .int _ _, _, _, h | .str _, _, _, h | .nil, _, _, h | .nilslice, _, _, h | .nilmap, _, _, h | .nilfn, _, _, h | .niliface, _, _, h | .junk, _, _, h => h
  | .ptr id off, _, hs, ⟨l, h1, h2⟩ => ⟨l, by simp only [AV.sc, decide_eq_true_eq] at hs; rw [sgOf_get hs]; simp [List.getD, h1], h2⟩
  | .map id, _, hs, ⟨l, h1, h2⟩ => ⟨l, by simp only [AV.sc, decide_eq_true_eq] at hs; rw [sgOf_get hs]; simp [List.getD, h1], h2⟩
  | .yield id, _, hs, ⟨l, h1, h2⟩ => ⟨l, by simp only [AV.sc, decide_eq_true_eq] at hs; rw [sgOf_get hs]; simp [List.getD, h1], h2⟩
  | .slice id _ _ _ _, _, hs, .inl ⟨h1, h2⟩ => .inl ⟨by simp only [AV.sc, decide_eq_true_eq] at hs; simpa [sgOf] using hs, h2⟩
  | .slice id _ _ _ _, _, hs, .inr ⟨l, o, c, h1, h2⟩ => .inr ⟨l, o, c, by simp only [AV.sc, decide_eq_true_eq] at hs; rw [sgOf_get hs]; simp [List.getD, h1], h2⟩
  | .fn _ fs cs, _, hs, ⟨a, b, h1, h2, h3⟩ => by
    simp only [AV.sc, Bool.and_eq_true] at hs
    exact ⟨a, b, h1, relL_ren fs _ hs.1 h2, relL_ren cs _ hs.2 h3⟩
  | .iface _ x, _, hs, ⟨c, h1, h2⟩ => ⟨c, h1, rel_ren x c (by simpa only [AV.sc] using hs) h2⟩
  | .agg cs, _, hs, ⟨a, h1, h2⟩ => ⟨a, h1, relL_ren cs _ (by simpa only [AV.sc] using hs) h2⟩
  | .tuple cs, _, hs, ⟨a, h1, h2⟩ => ⟨a, h1, relL_ren cs _ (by simpa only [AV.sc] using hs) h2⟩
theorem relL_ren {σ : Sg} {ρ : Nat → Nat} {m : Nat} : ∀ (vs : List AV) (cs : List Value), scL m vs = true → RelL σ (renL ρ vs) cs → RelL (sgOf σ ρ m) vs cs
  | [], _, _, h => h
  | v :: vs, _, hs, ⟨c, cs, h1, h2, h3⟩ => by
    simp only [scL, Bool.and_eq_true] at hs
    exact ⟨c, cs, h1, rel_ren v c hs.1 h2, relL_ren vs cs hs.2 h3⟩
end

theorem relE_ren {σ : Sg} {ρ : Nat → Nat} {m : Nat} : ∀ (es : List (AV × AV)) (l : List MapEntry), (es.all fun p => p.1.sc m && p.2.sc m) = true → RelE σ (es.map fun p => (p.1.ren ρ, p.2.ren ρ)) l → RelE (sgOf σ ρ m) es l
  | [], _, _, h => h
  | (k, v) :: es, l, hs, ⟨e, l', h1, h2, h3, h4⟩ => by
    simp only [List.all_cons, Bool.and_eq_true] at hs
    exact ⟨e, l', h1, rel_ren k _ hs.1.1 h2, rel_ren v _ hs.1.2 h3, relE_ren es l' hs.2 h4⟩
theorem ook_ren {σ : Sg} {ρ : Nat → Nat} {m : Nat} : ∀ (x : OObj) (o : Option Obj), x.sc m = true → OOK P σ (x.ren ρ) o → OOK P (sgOf σ ρ m) x o
  | .map es _ _, _, hs, ⟨arr, h1, h2, h3⟩ => ⟨arr, h1, relE_ren es _ hs h2, h3⟩
  | .iter none _ _ _, _, _, ⟨m', h1, .inl h2⟩ => ⟨m', h1, .inl ⟨rfl, h2.2⟩⟩
  | .iter none _ _ _, _, _, ⟨m', h1, .inr ⟨id, l, h2, _⟩⟩ => by cases h2
  | .iter (some id) _ _ _, _, _, ⟨m', h1, .inl h2⟩ => by cases h2.1
  | .iter (some id) _ _ _, _, hs, ⟨m', h1, .inr ⟨id', l, h2, h3, h4⟩⟩ => by
    simp only [OObj.sc, decide_eq_true_eq] at hs
    simp only [Option.map_some, Option.some.injEq] at h2
    subst h2
    exact ⟨m', h1, .inr ⟨id, l, rfl, by rw [sgOf_get hs]; simpa [List.getD] using congrArg (·.getD none) h3, h4⟩⟩
  | .loop t _ _ _ _, _, hs, ⟨r, h1, h2, h3⟩ => ⟨r, h1, fun k => by
      have := h2 k
      rw [lk_ren] at this
      exact rel_ren _ _ (lk_sc hs k) this, h3.1, h3.2.1, h3.2.2.1, h3.2.2.2.1, h3.2.2.2.2.1, by
      have e : (sgOf σ ρ m).length = m := by simp [sgOf]
      rw [e]; exact hs⟩

theorem scL_of_get {m : Nat} : ∀ {vs : List AV}, (∀ (j : Nat) (v : AV), vs[j]? = some v → v.sc m = true) → scL m vs = true
  | [], _ => rfl
  | v :: vs, h => by
    simp only [scL, Bool.and_eq_true]
    exact ⟨h 0 v rfl, scL_of_get fun j u hj => h (j + 1) u (by simpa using hj)⟩

def Closed (H : Heap) : Prop := ∀ (i : Nat) (o : AObj), H[i]? = some o → o.sc H.length = true

theorem HeapOK.closed {B : Nat} {σ : Sg} {h : Heap} {w : World} (k : HeapOK P B σ h w) : Closed h := by
  intro i o hi
  obtain ⟨l, hl⟩ := k.sg hi
  have := k.obj i o l hi hl
  cases o with
  | dead => rfl
  | other x =>
    cases l with
    | none => exact this.elim
    | some l => rw [← k.len]; exact ook_sc this.2.2.2
  | cells vs own =>
    cases l with
    | none => simp only [ObjOK] at this; subst this; rfl
    | some l =>
      refine scL_of_get fun j v hj => ?_
      obtain ⟨c, _, hr⟩ := this.2.1 j v hj
      rw [← k.len]; exact rel_sc v c hr

/-! ### States -/
structure St where
  t : List (Nat × AV)
  h : Heap

structure Rn where
  rd : Option Nat
  lo : Nat
def mark (D : Nat) : Deferred := { target := .collected D, args := #[] }
structure Kept (rnd : Rn) (a : Act) (w : World) : Prop where
  lo : rnd.lo ≤ w.heap.size
  marks : ∃ Ds : List Nat, a.defers = Ds.map mark ∧ Ds.Nodup ∧ ∀ D ∈ Ds, rnd.lo ≤ D ∧ w.heap[D]? = some (.deferred (some []))
  round : ∀ l, rnd.rd = some l → ∃ r, w.heap[l]? = some (.loop r)
theorem Kept.mono {rnd : Rn} {a a' : Act} {w w' : World} (h : Kept rnd a w) (hc : Ctl w w') (hd : a'.defers = a.defers) : Kept rnd a' w' := by
  obtain ⟨h0, ⟨Ds, e1, e2, e3⟩, h2⟩ := h
  refine ⟨Nat.le_trans h0 hc.size, ⟨Ds, hd.trans e1, e2, fun D hm => ⟨(e3 D hm).1, hc.mark D (e3 D hm).2⟩⟩, fun l e => ?_⟩
  obtain ⟨r, hr⟩ := h2 l e
  obtain ⟨r', hr', _⟩ := hc.loop l r hr
  exact ⟨r', hr'⟩

structure Sim (P : Program) (rnd : Rn) (B n sz : Nat) (σ : Sg) (st : St) (w : World) (a : Act) : Prop where
  hk : HeapOK P B σ st.h w
  ht : TOK σ st.t a
  hd : Kept rnd a w
  hsz : a.tmps.size = sz
  hn : n ≤ st.h.length

def Agree (n : Nat) (σ σ' : Sg) : Prop := ∀ i, i < n → σ'[i]? = σ[i]?
theorem Agree.refl (n : Nat) (σ : Sg) : Agree n σ σ := fun _ _ => rfl
theorem Agree.trans {n : Nat} {a b c : Sg} (h : Agree n a b) (k : Agree n b c) : Agree n a c := fun i hi => (k i hi).trans (h i hi)
theorem Agree.app {n : Nat} {σ τ : Sg} (h : n ≤ σ.length) : Agree n σ (σ ++ τ) := fun i hi => by rw [List.getElem?_append_left (by omega)]

structure Le (H : Heap) (s s' : St) : Prop where
  n : H.length ≤ s'.h.length
  ex : ∃ ρ : Nat → Nat, (∀ i, i < H.length → ρ i = i) ∧
    (∀ (i : Nat) (o : AObj), s'.h[i]? = some o → o = .dead ∨ (H[i]? = some o ∧ s.h[i]? = some o) ∨ (o.sc s'.h.length = true ∧ s.h[ρ i]? = some (o.ren ρ))) ∧
    (∀ (i j : Nat) (oi oj : AObj), s'.h[i]? = some oi → s'.h[j]? = some oj → oi.isOwn = true → oj.live = true → i ≠ j → ρ i ≠ ρ j) ∧
    ∀ k, lk s'.t k = .junk ∨ ((lk s'.t k).sc s'.h.length = true ∧ lk s.t k = (lk s'.t k).ren ρ)

theorem Le.refl {H : Heap} {s : St} (h : H.length ≤ s.h.length) (hs : ∀ k, (lk s.t k).sc s.h.length = true) (ho : ∀ (i : Nat) (o : AObj), s.h[i]? = some o → o.sc s.h.length = true) : Le H s s := by
  refine ⟨h, id, fun _ _ => rfl, fun i o hi => .inr (.inr ⟨ho i o hi, ?_⟩), fun i j _ _ _ _ _ _ hne => hne, fun k => .inr ⟨hs k, ?_⟩⟩
  · have := ho i o hi
    rw [aren_id (ρ := id) (m := s.h.length) (fun _ _ => rfl) o this]; exact hi
  · exact (ren_id (ρ := id) (m := s.h.length) (fun _ _ => rfl) _ (hs k)).symm

theorem live_ren {ρ : Nat → Nat} (o : AObj) : (o.ren ρ).live = o.live ∧ (o.ren ρ).isOwn = o.isOwn := by cases o <;> exact ⟨rfl, rfl⟩

theorem Sim.le {rnd : Rn} {B sz : Nat} {H : Heap} {σ : Sg} {s s' : St} {w : World} {a : Act} (hc : Closed H) (k : Sim P rnd B H.length sz σ s w a) (h : Le H s s') :
    ∃ σ', Agree H.length σ σ' ∧ Sim P rnd B H.length sz σ' s' w a ∧ Grow σ s.h w σ' s'.h w := by
  obtain ⟨hn, ρ, h1, h2, h3, h4⟩ := h
  have hid : ∀ (i : Nat) (o : AObj), s'.h[i]? = some o → o = .dead ∨ (o.sc s'.h.length = true ∧ s.h[ρ i]? = some (o.ren ρ)) := by
    intro i o hi
    rcases h2 i o hi with h | ⟨ha, hb⟩ | h
    · exact .inl h
    · have hi' := get_some_lt ha
      have hsc := hc i o ha
      refine .inr ⟨asc_mono hn o hsc, ?_⟩
      rw [h1 i hi', hb, aren_id h1 o hsc]
    · exact .inr h
  refine ⟨sgOf σ ρ s'.h.length, ?_, ⟨?_, ?_, k.hd, k.hsz, hn⟩, ?_⟩
  · intro i hi
    rw [sgOf_get (by omega), h1 i hi]
    have : i < σ.length := by rw [k.hk.len]; have := k.hn; omega
    simp [List.getD, this]
  · refine ⟨by simp [sgOf], k.hk.low, ?_, ?_⟩
    · intro i o l hi hl
      have hlt := get_some_lt hi
      rw [sgOf_get hlt] at hl
      simp only [Option.some.injEq] at hl
      rcases hid i o hi with rfl | ⟨hsc, ho⟩
      · trivial
      · obtain ⟨l', hl'⟩ := k.hk.sg ho
        have hobj := k.hk.obj _ _ _ ho hl'
        have : l = l' := by rw [← hl]; simp [List.getD, hl']
        subst this
        cases o with
        | dead => trivial
        | other x =>
          cases l with
          | none => exact hobj.elim
          | some l =>
            obtain ⟨g0, g1, g2, g3⟩ := hobj
            exact ⟨g0, g1, g2, ook_ren x _ hsc g3⟩
        | cells vs own =>
          simp only [AObj.sc] at hsc
          cases l with
          | none =>
            simp only [AObj.ren, ObjOK] at hobj ⊢
            cases vs with
            | nil => rfl
            | cons v vs => simp [renL] at hobj
          | some l =>
            obtain ⟨g0, g1, g2⟩ := hobj
            have hlen : ∀ vs : List AV, (renL ρ vs).length = vs.length := by
              intro vs; induction vs with
              | nil => rfl
              | cons v vs ih => simp [renL, ih]
            have hget : ∀ (vs : List AV) (j : Nat) (v : AV), vs[j]? = some v → (renL ρ vs)[j]? = some (v.ren ρ) := by
              intro vs; induction vs with
              | nil => intro j v hj; simp at hj
              | cons u vs ih =>
                intro j v hj
                cases j with
                | zero => simp only [List.getElem?_cons_zero, Option.some.injEq] at hj; subst hj; rfl
                | succ j => simp only [renL, List.getElem?_cons_succ] at hj ⊢; exact ih j v hj
            refine ⟨g0, fun j v hj => ?_, fun ho => ?_⟩
            · obtain ⟨c, c1, c2⟩ := g1 j _ (hget vs j v hj)
              refine ⟨c, c1, rel_ren v c ?_ c2⟩
              have : ∀ (vs : List AV), scL s'.h.length vs = true → ∀ (j : Nat) (v : AV), vs[j]? = some v → v.sc s'.h.length = true := by
                intro vs; induction vs with
                | nil => intro _ j v hj; simp at hj
                | cons u vs ih =>
                  intro hs j v hj
                  simp only [scL, Bool.and_eq_true] at hs
                  cases j with
                  | zero => simp only [List.getElem?_cons_zero, Option.some.injEq] at hj; subst hj; exact hs.1
                  | succ j => exact ih hs.2 j v (by simpa using hj)
              exact this vs hsc j v hj
            · have := g2 ho
              rw [hlen] at this; exact this
    · intro i j oi oj li lj hi hj ho hv hli hlj hne
      have hlti := get_some_lt hi
      have hltj := get_some_lt hj
      rw [sgOf_get hlti] at hli; rw [sgOf_get hltj] at hlj
      simp only [Option.some.injEq] at hli hlj
      have hvi : oi.live = true := by cases oi <;> simp_all [AObj.isOwn, AObj.live]
      rcases hid i oi hi with rfl | ⟨_, h5⟩
      · cases hvi
      · rcases hid j oj hj with rfl | ⟨_, h6⟩
        · cases hv
        · obtain ⟨l5, hl5⟩ := k.hk.sg h5
          obtain ⟨l6, hl6⟩ := k.hk.sg h6
          have e5 : l5 = some li := by rw [← hli]; simp [List.getD, hl5]
          have e6 : l6 = some lj := by rw [← hlj]; simp [List.getD, hl6]
          subst e5; subst e6
          exact k.hk.uniq _ _ _ _ li lj h5 h6 (by rw [(live_ren oi).2]; exact ho) (by rw [(live_ren oj).1]; exact hv) hl5 hl6 (h3 i j oi oj hi hj ho hv hne)
  · intro j
    rcases h4 j with hj | ⟨hsc, hj⟩
    · rw [hj]; trivial
    · have := k.ht j
      rw [hj] at this
      exact rel_ren _ _ hsc this
  · refine Grow.same fun i o l hi ho hl => ?_
    have hlt := get_some_lt hi
    rw [sgOf_get hlt] at hl
    simp only [Option.some.injEq] at hl
    rcases hid i o hi with rfl | ⟨_, h5⟩
    · simp [AObj.live] at ho
    · obtain ⟨l5, hl5⟩ := k.hk.sg h5
      have e5 : l5 = some l := by rw [← hl]; simp [List.getD, hl5]
      subst e5
      exact ⟨ρ i, _, l, h5, by rw [(live_ren o).1]; exact ho, fun h => by rw [(live_ren o).2]; exact h, hl5, rfl⟩
end Go.Abs
