/- The abstract memory: values and objects, and how they stand for a world of the model. -/
import Derived.Test.YtbfihdpmphlckaaA0
set_option linter.unusedSimpArgs false
set_option linter.unusedVariables false
namespace Go.Abs
open Go.RowKit
variable {P : Program}

def Ext (σ σ' : Sg) : Prop := σ.length ≤ σ'.length ∧ ∀ (i : Nat) (l : Loc), σ[i]? = some (some l) → σ'[i]? = some (some l)
theorem Ext.refl (σ : Sg) : Ext σ σ := ⟨Nat.le_refl _, fun _ _ h => h⟩
theorem Ext.trans {a b c : Sg} (h : Ext a b) (k : Ext b c) : Ext a c := ⟨Nat.le_trans h.1 k.1, fun _ _ x => k.2 _ _ (h.2 _ _ x)⟩
theorem Ext.app (σ τ : Sg) : Ext σ (σ ++ τ) := ⟨by simp, fun i l h => by
  have hi : i < σ.length := by
    rcases Nat.lt_or_ge i σ.length with h' | h'
    · exact h'
    · simp [List.getElem?_eq_none h'] at h
  rw [List.getElem?_append_left hi]; exact h⟩

mutual
theorem Rel.mono {σ σ' : Sg} (h : Ext σ σ') : ∀ (a : AV) (v : Value), Rel σ a v → Rel σ' a v
  | .bool _, _, r | .int _ _, _, r | .str _, _, r | .nil, _, r | .nilslice, _, r | .nilmap, _, r | .nilfn, _, r | .niliface, _, r | .junk, _, r => r
  | .ptr _ _, _, ⟨l, h1, h2⟩ => ⟨l, h.2 _ _ h1, h2⟩
  | .map _, _, ⟨l, h1, h2⟩ => ⟨l, h.2 _ _ h1, h2⟩
  | .yield _, _, ⟨l, h1, h2⟩ => ⟨l, h.2 _ _ h1, h2⟩
  | .slice _ _ _ _ _, _, .inl ⟨h1, h2⟩ => .inl ⟨Nat.lt_of_lt_of_le h1 h.1, h2⟩
  | .slice _ _ _ _ _, _, .inr ⟨l, o, c, h1, h2⟩ => .inr ⟨l, o, c, h.2 _ _ h1, h2⟩
  | .fn _ fs cs, _, ⟨a, b, h1, h2, h3⟩ => ⟨a, b, h1, RelL.mono h fs _ h2, RelL.mono h cs _ h3⟩
  | .iface _ x, _, ⟨c, h1, h2⟩ => ⟨c, h1, Rel.mono h x _ h2⟩
  | .agg cs, _, ⟨a, h1, h2⟩ => ⟨a, h1, RelL.mono h cs _ h2⟩
  | .tuple cs, _, ⟨a, h1, h2⟩ => ⟨a, h1, RelL.mono h cs _ h2⟩
theorem RelL.mono {σ σ' : Sg} (h : Ext σ σ') : ∀ (a : List AV) (v : List Value), RelL σ a v → RelL σ' a v
  | [], _, r => r
  | a :: as, _, ⟨v, vs, h1, h2, h3⟩ => ⟨v, vs, h1, Rel.mono h a v h2, RelL.mono h as vs h3⟩
end

theorem RelL.length {σ : Sg} : ∀ {as : List AV} {vs : List Value}, RelL σ as vs → as.length = vs.length
  | [], _, h => by simp only [RelL] at h; subst h; rfl
  | _ :: as, _, h => by
    simp only [RelL] at h
    obtain ⟨v, vs, rfl, _, h⟩ := h
    simp [RelL.length h]

theorem RelL.get {σ : Sg} : ∀ {as : List AV} {vs : List Value}, RelL σ as vs → ∀ {j : Nat} {a : AV}, as[j]? = some a → ∃ v, vs[j]? = some v ∧ Rel σ a v
  | [], _, _, j, a, hj => by simp at hj
  | a :: as, _, h, 0, b, hj => by
    simp only [RelL] at h
    obtain ⟨v, vs, rfl, hr, _⟩ := h
    simp only [List.getElem?_cons_zero, Option.some.injEq] at hj; subst hj
    exact ⟨v, rfl, hr⟩
  | a :: as, _, h, j + 1, b, hj => by
    simp only [RelL] at h
    obtain ⟨v, vs, rfl, _, hr⟩ := h
    simp only [List.getElem?_cons_succ] at hj
    obtain ⟨u, h1, h2⟩ := RelL.get hr hj
    exact ⟨u, by simpa using h1, h2⟩

theorem RelL.of_get {σ : Sg} : ∀ {as : List AV} {vs : List Value}, as.length = vs.length → (∀ (j : Nat) (a : AV) (v : Value), as[j]? = some a → vs[j]? = some v → Rel σ a v) → RelL σ as vs
  | [], [], _, _ => rfl
  | a :: as, v :: vs, hl, h => ⟨v, vs, rfl, h 0 a v rfl rfl, RelL.of_get (by simpa using hl) (fun j b u h1 h2 => h (j + 1) b u (by simpa using h1) (by simpa using h2))⟩
  | [], _ :: _, hl, _ => by simp at hl
  | _ :: _, [], hl, _ => by simp at hl

theorem RelL.append {σ : Sg} : ∀ {as bs : List AV} {us vs : List Value}, RelL σ as us → RelL σ bs vs → RelL σ (as ++ bs) (us ++ vs)
  | [], _, _, _, h, k => by simp only [RelL] at h; subst h; exact k
  | a :: as, _, _, _, h, k => by
    simp only [RelL] at h
    obtain ⟨v, vs, rfl, h1, h2⟩ := h
    exact ⟨v, _, rfl, h1, RelL.append h2 k⟩

theorem RelL.take {σ : Sg} : ∀ {as : List AV} {us : List Value} (n : Nat), RelL σ as us → RelL σ (as.take n) (us.take n)
  | [], _, n, h => by simp only [RelL] at h; subst h; simp [RelL]
  | a :: as, _, 0, h => by simp [RelL]
  | a :: as, _, n + 1, h => by
    simp only [RelL] at h
    obtain ⟨v, vs, rfl, h1, h2⟩ := h
    exact ⟨v, _, rfl, h1, RelL.take n h2⟩

theorem RelL.drop {σ : Sg} : ∀ {as : List AV} {us : List Value} (n : Nat), RelL σ as us → RelL σ (as.drop n) (us.drop n)
  | [], _, n, h => by simp only [RelL] at h; subst h; simp [RelL]
  | a :: as, _, 0, h => by simpa using h
  | a :: as, _, n + 1, h => by
    simp only [RelL] at h
    obtain ⟨v, vs, rfl, h1, h2⟩ := h
    simpa using RelL.drop n h2

mutual
def AV.ren (ρ : Nat → Nat) : AV → AV
  | .ptr id off => .ptr (ρ id) off
  | .slice id off len sz ex => .slice (ρ id) off len sz ex
  | .map id => .map (ρ id)
  | .yield id => .yield (ρ id)
  | .fn f a b => .fn f (renL ρ a) (renL ρ b)
  | .iface t v => .iface t (v.ren ρ)
  | .agg cs => .agg (renL ρ cs)
  | .tuple cs => .tuple (renL ρ cs)
  | v => v
def renL (ρ : Nat → Nat) : List AV → List AV
  | [] => []
  | v :: vs => v.ren ρ :: renL ρ vs
end
mutual
def AV.sc (m : Nat) : AV → Bool
  | .ptr id _ => id < m
  | .slice id _ _ _ _ => id < m
  | .map id => id < m
  | .yield id => id < m
  | .fn _ a b => scL m a && scL m b
  | .iface _ v => v.sc m
  | .agg cs => scL m cs
  | .tuple cs => scL m cs
  | _ => true
def scL (m : Nat) : List AV → Bool
  | [] => true
  | v :: vs => v.sc m && scL m vs
end
def tRen (ρ : Nat → Nat) (t : List (Nat × AV)) : List (Nat × AV) := t.map fun x => (x.1, x.2.ren ρ)
def tSc (m : Nat) (t : List (Nat × AV)) : Bool := t.all fun x => x.2.sc m
def OObj.ren (ρ : Nat → Nat) : OObj → OObj
  | .map es bs c => .map (es.map fun p => (p.1.ren ρ, p.2.ren ρ)) bs c
  | .iter m since seen last => .iter (m.map ρ) since seen last
  | .loop t ps a b ph => .loop (tRen ρ t) ps a b ph
def OObj.sc (m : Nat) : OObj → Bool
  | .map es _ _ => es.all fun p => p.1.sc m && p.2.sc m
  | .iter i _ _ _ => match i with
    | some id => decide (id < m)
    | none => true
  | .loop t _ _ _ _ => tSc m t
def AObj.ren (ρ : Nat → Nat) : AObj → AObj
  | .cells vs own => .cells (renL ρ vs) own
  | .other x => .other (x.ren ρ)
  | .dead => .dead
def AObj.sc (m : Nat) : AObj → Bool
  | .cells vs _ => scL m vs
  | .other x => x.sc m
  | .dead => true

mutual
theorem sc_mono {m m' : Nat} (h : m ≤ m') : ∀ (v : AV), v.sc m = true → v.sc m' = true
  | .bool _, _ | .int _ _, _ | .str _, _ | .nil, _ | .nilslice, _ | .nilmap, _ | .nilfn, _ | .niliface, _ | .junk, _ => rfl
  | .ptr id off, k => by simp only [AV.sc, decide_eq_true_eq] at k ⊢; omega
  | .slice id _ _ _ _, k => by simp only [AV.sc, decide_eq_true_eq] at k ⊢; omega
  | .map id, k => by simp only [AV.sc, decide_eq_true_eq] at k ⊢; omega
  | .yield id, k => by simp only [AV.sc, decide_eq_true_eq] at k ⊢; omega
  | .fn f a b, k => by simp only [AV.sc, Bool.and_eq_true] at k ⊢; exact ⟨scL_mono h a k.1, scL_mono h b k.2⟩
  | .iface t v, k => by simp only [AV.sc] at k ⊢; exact sc_mono h v k
  | .agg cs, k => by simp only [AV.sc] at k ⊢; exact scL_mono h cs k
  | .tuple cs, k => by simp only [AV.sc] at k ⊢; exact scL_mono h cs k
theorem scL_mono {m m' : Nat} (h : m ≤ m') : ∀ (vs : List AV), scL m vs = true → scL m' vs = true
  | [], _ => rfl
  | v :: vs, k => by simp only [scL, Bool.and_eq_true] at k ⊢; exact ⟨sc_mono h v k.1, scL_mono h vs k.2⟩
end

theorem tSc_mono {m m' : Nat} (h : m ≤ m') {t : List (Nat × AV)} (k : tSc m t = true) : tSc m' t = true :=
  List.all_eq_true.2 fun x hx => sc_mono h _ (List.all_eq_true.1 k x hx)
theorem osc_mono {m m' : Nat} (h : m ≤ m') : ∀ (x : OObj), x.sc m = true → x.sc m' = true
  | .map es _ _, k => List.all_eq_true.2 fun x hx => by
    have := List.all_eq_true.1 k x hx
    simp only [Bool.and_eq_true] at this ⊢
    exact ⟨sc_mono h _ this.1, sc_mono h _ this.2⟩
  | .iter none _ _ _, _ => rfl
  | .iter (some id) _ _ _, k => by
    simp only [OObj.sc, decide_eq_true_eq] at k ⊢; omega
  | .loop t _ _ _ _, k => tSc_mono h k

theorem get_some_lt {α : Type} {l : List α} {i : Nat} {a : α} (h : l[i]? = some a) : i < l.length := by
  rcases Nat.lt_or_ge i l.length with h' | h'
  · exact h'
  · simp [List.getElem?_eq_none h'] at h

mutual
theorem rel_sc {σ : Sg} : ∀ (v : AV) (c : Value), Rel σ v c → v.sc σ.length = true
  | .bool _, _, _ | .int _ _, _, _ | .str _, _, _ | .nil, _, _ | .nilslice, _, _ | .nilmap, _, _ | .nilfn, _, _ | .niliface, _, _ | .junk, _, _ => rfl
  | .ptr id off, _, ⟨l, h1, h2⟩ => by simp only [AV.sc, decide_eq_true_eq]; exact get_some_lt h1
  | .map id, _, ⟨l, h1, h2⟩ => by simp only [AV.sc, decide_eq_true_eq]; exact get_some_lt h1
  | .yield id, _, ⟨l, h1, h2⟩ => by simp only [AV.sc, decide_eq_true_eq]; exact get_some_lt h1
  | .slice id _ _ _ _, _, .inl ⟨h1, h2⟩ => by simp only [AV.sc, decide_eq_true_eq]; exact h1
  | .slice id _ _ _ _, _, .inr ⟨l, o, c, h1, h2⟩ => by simp only [AV.sc, decide_eq_true_eq]; exact get_some_lt h1
  | .fn _ fs cs, _, ⟨a, b, h1, h2, h3⟩ => by simp only [AV.sc, relL_sc fs _ h2, relL_sc cs _ h3, Bool.and_self]
  | .iface _ x, _, ⟨c, h1, h2⟩ => by simp only [AV.sc, rel_sc x c h2]
  | .agg cs, _, ⟨a, h1, h2⟩ => by simp only [AV.sc, relL_sc cs _ h2]
  | .tuple cs, _, ⟨a, h1, h2⟩ => by simp only [AV.sc, relL_sc cs _ h2]
theorem relL_sc {σ : Sg} : ∀ (vs : List AV) (cs : List Value), RelL σ vs cs → scL σ.length vs = true
  | [], _, _ => rfl
  | v :: vs, _, ⟨c, cs, h1, h2, h3⟩ => by simp only [scL, rel_sc v c h2, relL_sc vs cs h3, Bool.and_self]
end

def TOK (σ : Sg) (t : List (Nat × AV)) (a : Act) : Prop := ∀ k, Rel σ (lk t k) (a.tmps.getD k undef)
def RelE (σ : Sg) : List (AV × AV) → List MapEntry → Prop
  | [], l => l = []
  | (k, v) :: es, l => ∃ e l', l = e :: l' ∧ Rel σ k e.key ∧ Rel σ v e.val ∧ RelE σ es l'
def PhOK : Phase → Loop → Prop
  | .ready, r => r.state = .ready ∧ r.pending = none
  | .busy, r => r.state = .busy
  | .done j, r => r.state = .done ∧ r.pending = some j.code
def OOK (P : Program) (σ : Sg) : OObj → Option Obj → Prop
  | .map es bs c, o => ∃ (arr : Array MapEntry), o = some (.map arr c) ∧ RelE σ es arr.toList ∧ arr.toList.map (·.born) = bs
  | .iter m since seen last, o => ∃ m', o = some (.mapIter m' since seen.toArray last) ∧ ((m = none ∧ m' = none) ∨ ∃ id l, m = some id ∧ σ[id]? = some (some l) ∧ m' = some l.blk)
  | .loop t ps a b ph, o => ∃ r : Loop, o = some (.loop r) ∧ TOK σ t { tmps := r.tmps, defers := [] } ∧ r.params.toList = ps ∧ (ps.all fun p => decide (p < r.tmps.size)) = true ∧
      comp P r.tmps.size r.assign = some a.erase ∧ comp P r.tmps.size r.body = some b.erase ∧ PhOK ph r ∧ tSc σ.length t = true
theorem TOK.mono {σ σ' : Sg} {t : List (Nat × AV)} {a : Act} (h : Ext σ σ') (ht : TOK σ t a) : TOK σ' t a := fun k => Rel.mono h _ _ (ht k)
theorem RelE.mono {σ σ' : Sg} (h : Ext σ σ') : ∀ {es : List (AV × AV)} {l : List MapEntry}, RelE σ es l → RelE σ' es l
  | [], _, r => r
  | (_, _) :: _, _, ⟨e, l', h1, h2, h3, h4⟩ => ⟨e, l', h1, Rel.mono h _ _ h2, Rel.mono h _ _ h3, RelE.mono h h4⟩
theorem OOK.mono {σ σ' : Sg} (h : Ext σ σ') : ∀ {x : OObj} {o : Option Obj}, OOK P σ x o → OOK P σ' x o
  | .map _ _ _, _, ⟨arr, h1, h2, h3⟩ => ⟨arr, h1, RelE.mono h h2, h3⟩
  | .iter _ _ _ _, _, ⟨m', h1, .inl h2⟩ => ⟨m', h1, .inl h2⟩
  | .iter _ _ _ _, _, ⟨m', h1, .inr ⟨id, l, h2, h3, h4⟩⟩ => ⟨m', h1, .inr ⟨id, l, h2, h.2 _ _ h3, h4⟩⟩
  | .loop _ _ _ _ _, _, ⟨r, h1, h2, h3⟩ => ⟨r, h1, h2.mono h, h3.1, h3.2.1, h3.2.2.1, h3.2.2.2.1, h3.2.2.2.2.1, tSc_mono h.1 h3.2.2.2.2.2⟩
theorem relE_sc {σ : Sg} : ∀ {es : List (AV × AV)} {l : List MapEntry}, RelE σ es l → (es.all fun p => p.1.sc σ.length && p.2.sc σ.length) = true
  | [], _, _ => rfl
  | (k, v) :: es, _, ⟨e, l', h1, h2, h3, h4⟩ => by
    simp only [List.all_cons, rel_sc k _ h2, rel_sc v _ h3, relE_sc h4, Bool.and_self]
theorem ook_sc {σ : Sg} : ∀ {x : OObj} {o : Option Obj}, OOK P σ x o → x.sc σ.length = true
  | .map _ _ _, _, ⟨_, _, h2, _⟩ => relE_sc h2
  | .iter none _ _ _, _, _ => rfl
  | .iter (some id) _ _ _, _, ⟨_, _, h⟩ => by
    rcases h with ⟨h, _⟩ | ⟨id', l, h1, h2, _⟩
    · cases h
    · cases h1; simp only [OObj.sc, decide_eq_true_eq]; exact get_some_lt h2
  | .loop _ _ _ _ _, _, ⟨_, _, _, h3⟩ => h3.2.2.2.2.2

def ObjOK (P : Program) (B : Nat) (σ : Sg) (w : World) (l? : Option Loc) : AObj → Prop
  | .dead => True
  | .other x =>
    match l? with
    | none => False
    | some l => l.blk < w.heap.size ∧ B ≤ l.blk ∧ l.base = 0 ∧ OOK P σ x w.heap[l.blk]?
  | .cells vs own =>
    match l? with
    | none => vs = []
    | some l => l.blk < w.heap.size ∧ (∀ (j : Nat) (v : AV), vs[j]? = some v → ∃ c, w.cell? ⟨l.blk, l.base + j, none⟩ = some c ∧ Rel σ v c) ∧
      (own = true → B ≤ l.blk ∧ l.base = 0 ∧ ∃ arr e, w.heap[l.blk]? = some (.cells arr e (0, 0)) ∧ arr.size = l.tot ∧ vs.length ≤ l.tot)

structure HeapOK (P : Program) (B : Nat) (σ : Sg) (h : Heap) (w : World) : Prop where
  len : σ.length = h.length
  low : B ≤ w.heap.size
  obj : ∀ (i : Nat) (o : AObj) (l : Option Loc), h[i]? = some o → σ[i]? = some l → ObjOK P B σ w l o
  uniq : ∀ (i j : Nat) (oi oj : AObj) (li lj : Loc), h[i]? = some oi → h[j]? = some oj → oi.isOwn = true → oj.live = true →
    σ[i]? = some (some li) → σ[j]? = some (some lj) → i ≠ j → li.blk ≠ lj.blk

theorem ObjOK.mono {B : Nat} {σ σ' : Sg} {w : World} {l : Option Loc} {o : AObj} (he : Ext σ σ') (h : ObjOK P B σ w l o) : ObjOK P B σ' w l o := by
  cases o with
  | dead => trivial
  | other x =>
    cases l with
    | none => exact h
    | some l =>
      obtain ⟨h0, h1, h2, h3⟩ := h
      exact ⟨h0, h1, h2, h3.mono he⟩
  | cells vs own =>
    cases l with
    | none => exact h
    | some l =>
      obtain ⟨h0, h1, h2⟩ := h
      exact ⟨h0, fun j v hv => let ⟨c, a, b⟩ := h1 j v hv; ⟨c, a, Rel.mono he _ _ b⟩, h2⟩

theorem ObjOK.world {B : Nat} {σ : Sg} {w w' : World} {l : Option Loc} {o : AObj} (h : ObjOK P B σ w l o) (hs : w.heap.size ≤ w'.heap.size)
    (hb : ∀ l', l = some l' → o.live = true → w'.heap[l'.blk]? = w.heap[l'.blk]?) : ObjOK P B σ w' l o := by
  cases o with
  | dead => trivial
  | other x =>
    cases l with
    | none => exact h
    | some l =>
      have hb := hb l rfl rfl
      obtain ⟨h0, h1, h2, h3⟩ := h
      exact ⟨Nat.lt_of_lt_of_le h0 hs, h1, h2, by rw [hb]; exact h3⟩
  | cells vs own =>
    cases l with
    | none => exact h
    | some l =>
      have hb := hb l rfl rfl
      obtain ⟨h0, h1, h2⟩ := h
      refine ⟨Nat.lt_of_lt_of_le h0 hs, fun j v hv => ?_, fun ho => ?_⟩
      · obtain ⟨c, a, b⟩ := h1 j v hv
        refine ⟨c, ?_, b⟩
        unfold World.cell? at a ⊢
        simp only at a ⊢
        rw [hb]; exact a
      · rw [hb]; exact h2 ho

theorem HeapOK.heap_eq {B : Nat} {σ : Sg} {h : Heap} {w w' : World} (k : HeapOK P B σ h w) (e : w'.heap = w.heap) : HeapOK P B σ h w' :=
  ⟨k.len, by rw [e]; exact k.low, fun i o l hi hl => (k.obj i o l hi hl).world (by rw [e]; exact Nat.le_refl _) (fun _ _ _ => by rw [e]), k.uniq⟩

theorem append_cases {α : Type} {l : List α} {a b : α} {i : Nat} (h : (l ++ [a])[i]? = some b) : (i < l.length ∧ l[i]? = some b) ∨ (i = l.length ∧ b = a) := by
  rcases Nat.lt_trichotomy i l.length with h' | h' | h'
  · rw [List.getElem?_append_left h'] at h; exact .inl ⟨h', h⟩
  · subst h'; simp at h; exact .inr ⟨rfl, h.symm⟩
  · rw [List.getElem?_eq_none (by simp; omega)] at h; cases h


theorem HeapOK.blk_lt {B : Nat} {σ : Sg} {h : Heap} {w : World} (k : HeapOK P B σ h w) {i : Nat} {o : AObj} {l : Loc} (hi : h[i]? = some o) (hl : σ[i]? = some (some l)) (ho : o.live = true) :
    l.blk < w.heap.size := by
  have := k.obj i o _ hi hl
  cases o with
  | dead => simp [AObj.live] at ho
  | other _ => exact this.1
  | cells _ _ => exact this.1

theorem HeapOK.sg {B : Nat} {σ : Sg} {h : Heap} {w : World} (k : HeapOK P B σ h w) {i : Nat} {o : AObj} (hi : h[i]? = some o) : ∃ l, σ[i]? = some l :=
  ⟨σ[i]'(by rw [k.len]; exact get_some_lt hi), by simp⟩

theorem HeapOK.alloc {B : Nat} {σ : Sg} {h : Heap} {w : World} (k : HeapOK P B σ h w) {vs : List AV} {cs tail : List Value} (e : TypeId) (hr : RelL σ vs cs) :
    HeapOK P B (σ ++ [some ⟨w.heap.size, 0, cs.length + tail.length⟩]) (h ++ [.cells vs true]) (w.alloc (.cells (cs ++ tail).toArray e)) := by
  have hlen : vs.length = cs.length := hr.length
  have hold : ∀ k', k' < w.heap.size → (w.alloc (.cells (cs ++ tail).toArray e)).heap[k']? = w.heap[k']? := fun k' hk => Below.heap_alloc _ _ _ hk
  have hnew : (w.alloc (.cells (cs ++ tail).toArray e)).heap[w.heap.size]? = some (.cells (cs ++ tail).toArray e (0, 0)) := by
    show (w.heap.push _)[w.heap.size]? = _
    simp
  refine ⟨by simp [k.len], by simp; have := k.low; omega, ?_, ?_⟩
  · intro i o l hi hl
    rcases append_cases hi with ⟨h1, h2⟩ | ⟨h1, h2⟩
    · rw [List.getElem?_append_left (by rw [k.len]; exact h1)] at hl
      refine ((k.obj i o l h2 hl).mono (Ext.app _ _)).world (by simp) (fun l' e' ho => ?_)
      subst e'
      exact hold _ (k.blk_lt h2 hl ho)
    · subst h1; subst h2
      rw [← k.len] at hl; simp at hl; subst hl
      refine ⟨by simp, fun j v hv => ?_, fun _ => ⟨k.low, rfl, _, e, hnew, by simp, by simp [hlen]⟩⟩
      obtain ⟨c, h1, h2⟩ := hr.get hv
      refine ⟨c, ?_, Rel.mono (Ext.app _ _) _ _ h2⟩
      simp only [World.cell?, hnew, Nat.zero_add]
      have := get_some_lt h1
      simp only [Option.isSome_none, Bool.false_eq_true, ↓reduceIte, List.getElem?_toArray]
      rw [List.getElem?_append_left this]; exact h1
  · intro i j oi oj li lj hi hj ho hv hli hlj hne
    rcases append_cases hi with ⟨h1, h2⟩ | ⟨h1, h2⟩ <;> rcases append_cases hj with ⟨h3, h4⟩ | ⟨h3, h4⟩
    · rw [List.getElem?_append_left (by rw [k.len]; exact h1)] at hli
      rw [List.getElem?_append_left (by rw [k.len]; exact h3)] at hlj
      exact k.uniq i j oi oj li lj h2 h4 ho hv hli hlj hne
    · rw [List.getElem?_append_left (by rw [k.len]; exact h1)] at hli
      subst h3
      rw [← k.len] at hlj; simp at hlj; subst hlj
      have : oi.live = true := by cases oi <;> simp_all [AObj.isOwn, AObj.live]
      have := k.blk_lt h2 hli this
      simp; omega
    · rw [List.getElem?_append_left (by rw [k.len]; exact h3)] at hlj
      subst h1
      rw [← k.len] at hli; simp at hli; subst hli
      have := k.blk_lt h4 hlj hv
      simp; omega
    · omega

theorem HeapOK.row {B : Nat} {σ : Sg} {h : Heap} {w : World} (k : HeapOK P B σ h w) {i : Nat} {vs : List AV} {l : Loc}
    (hi : h[i]? = some (.cells vs true)) (hl : σ[i]? = some (some l)) :
    B ≤ l.blk ∧ l.base = 0 ∧ ∃ arr e, w.heap[l.blk]? = some (.cells arr e (0, 0)) ∧ arr.size = l.tot ∧ vs.length ≤ l.tot ∧ RelL σ vs (arr.toList.take vs.length) := by
  obtain ⟨h0, h1, h2⟩ := k.obj i _ _ hi hl
  obtain ⟨hB, hb, arr, e, hblk, htot, hfit⟩ := h2 rfl
  refine ⟨hB, hb, arr, e, hblk, htot, hfit, RelL.of_get (by simp; omega) (fun j a v ha hv => ?_)⟩
  obtain ⟨c, hc, hr⟩ := h1 j a ha
  simp only [World.cell?, hblk, hb, Nat.zero_add] at hc
  have hj : j < vs.length := get_some_lt ha
  rw [List.getElem?_take, if_pos hj] at hv
  simp only [Option.isSome_none, Bool.false_eq_true, ↓reduceIte] at hc
  rw [Array.getElem?_toList, hc] at hv
  simp only [Option.some.injEq] at hv; subst hv; exact hr

theorem HeapOK.rerow {B : Nat} {σ : Sg} {h : Heap} {w : World} (k : HeapOK P B σ h w) {i : Nat} {vs vs' : List AV} {l : Loc} {arr' : Array Value}
    (hi : h[i]? = some (.cells vs true)) (hl : σ[i]? = some (some l)) (hs : arr'.size = l.tot) (hf : vs'.length ≤ l.tot) (hr : RelL σ vs' (arr'.toList.take vs'.length)) :
    HeapOK P B σ (h.set i (.cells vs' true)) (w.setRow l.blk arr') := by
  obtain ⟨hB, hb, arr, e, hblk, htot, hfit, hrel⟩ := k.row hi hl
  have hnew := setRow_heap w l.blk arr arr' e (0, 0) hblk
  have hother : ∀ b, b ≠ l.blk → (w.setRow l.blk arr').heap[b]? = w.heap[b]? := fun b hb => setRow_other _ _ _ _ hb
  have hlt : i < h.length := get_some_lt hi
  refine ⟨by simp [k.len], by simpa using k.low, ?_, ?_⟩
  · intro j o l' hj hl'
    rw [List.getElem?_set] at hj
    by_cases hij : i = j
    · subst hij
      simp only [if_true, hlt, Option.some.injEq] at hj; subst hj
      rw [hl] at hl'; simp only [Option.some.injEq] at hl'; subst hl'
      refine ⟨by simpa using k.blk_lt hi hl rfl, fun m x hx => ?_, fun _ => ⟨hB, hb, _, e, hnew, hs, hf⟩⟩
      obtain ⟨c, h1, h2⟩ := hr.get hx
      refine ⟨c, ?_, h2⟩
      have hm : m < vs'.length := get_some_lt hx
      rw [List.getElem?_take, if_pos hm, Array.getElem?_toList] at h1
      simp only [World.cell?, hnew, hb, Nat.zero_add]
      simpa using h1
    · simp only [hij, if_false] at hj
      refine (k.obj j o l' hj hl').world (by simp) (fun l'' e' hlive => ?_)
      subst e'
      exact hother _ (Ne.symm (k.uniq i j _ _ l l'' hi hj rfl hlive hl hl' hij))
  · intro a b oa ob la lb ha hb hoa hlb hla hlb' hne
    have conv : ∀ (x : Nat) (ox : AObj), (h.set i (.cells vs' true))[x]? = some ox → ∃ ox', h[x]? = some ox' ∧ ox'.isOwn = ox.isOwn ∧ ox'.live = ox.live := by
      intro x ox hx
      rw [List.getElem?_set] at hx
      by_cases hix : i = x
      · subst hix
        simp only [if_true, hlt, Option.some.injEq] at hx; subst hx
        exact ⟨_, hi, rfl, rfl⟩
      · simp only [hix, if_false] at hx
        exact ⟨ox, hx, rfl, rfl⟩
    obtain ⟨oa', ha', ea, _⟩ := conv a oa ha
    obtain ⟨ob', hb', _, eb⟩ := conv b ob hb
    exact k.uniq a b oa' ob' la lb ha' hb' (by rw [ea]; exact hoa) (by rw [eb]; exact hlb) hla hlb' hne

theorem HeapOK.move {B : Nat} {σ : Sg} {h : Heap} {w : World} (k : HeapOK P B σ h w) {i : Nat} {o : AObj} {l : Option Loc}
    (hi : h[i]? = some o) (hl : σ[i]? = some l) : HeapOK P B (σ ++ [l]) (h.set i .dead ++ [o]) w := by
  have hlt : i < h.length := get_some_lt hi
  have hnd : ∀ (x : Nat) (ox : AObj), (h.set i .dead)[x]? = some ox → ox.live = true → i ≠ x ∧ h[x]? = some ox := by
    intro x ox hx hv
    rw [List.getElem?_set] at hx
    by_cases hix : i = x
    · subst hix
      simp only [if_true, hlt, Option.some.injEq] at hx; subst hx
      simp [AObj.live] at hv
    · simp only [hix, if_false] at hx; exact ⟨hix, hx⟩
  refine ⟨by simp [k.len], k.low, ?_, ?_⟩
  · intro j oj lj hj hlj
    rcases append_cases hj with ⟨h1, h2⟩ | ⟨h1, h2⟩
    · simp only [List.length_set] at h1
      rw [List.getElem?_append_left (by rw [k.len]; exact h1)] at hlj
      by_cases hv : oj.live = true
      · obtain ⟨_, h3⟩ := hnd j oj h2 hv
        exact (k.obj j oj lj h3 hlj).mono (Ext.app _ _)
      · cases oj with
        | dead => trivial
        | other _ => simp [AObj.live] at hv
        | cells _ _ => simp [AObj.live] at hv
    · simp only [List.length_set] at h1; subst h1; subst h2
      rw [← k.len] at hlj; simp at hlj; subst hlj
      exact (k.obj i oj l hi hl).mono (Ext.app _ _)
  · intro a b oa ob la lb ha hb hoa hlb hla hlb' hne
    have hav : oa.live = true := by cases oa <;> simp_all [AObj.isOwn, AObj.live]
    rcases append_cases ha with ⟨h1, h2⟩ | ⟨h1, h2⟩ <;> rcases append_cases hb with ⟨h3, h4⟩ | ⟨h3, h4⟩
    · simp only [List.length_set] at h1 h3
      rw [List.getElem?_append_left (by rw [k.len]; exact h1)] at hla
      rw [List.getElem?_append_left (by rw [k.len]; exact h3)] at hlb'
      exact k.uniq a b oa ob la lb (hnd a oa h2 hav).2 (hnd b ob h4 hlb).2 hoa hlb hla hlb' hne
    · simp only [List.length_set] at h1 h3
      rw [List.getElem?_append_left (by rw [k.len]; exact h1)] at hla
      subst h3; subst h4
      rw [← k.len] at hlb'; simp at hlb'; subst hlb'
      exact k.uniq a i oa ob la lb (hnd a oa h2 hav).2 hi hoa hlb hla hl (hnd a oa h2 hav).1.symm
    · simp only [List.length_set] at h1 h3
      rw [List.getElem?_append_left (by rw [k.len]; exact h3)] at hlb'
      subst h1; subst h2
      rw [← k.len] at hla; simp at hla; subst hla
      exact k.uniq i b oa ob la lb hi (hnd b ob h4 hlb).2 hoa hlb hl hlb' (hnd b ob h4 hlb).1
    · simp only [List.length_set] at h1 h3; omega

theorem HeapOK.shrink {B : Nat} {σ : Sg} {h : Heap} {w : World} (k : HeapOK P B σ h w) {i : Nat} {vs : List AV} (n : Nat)
    (hi : h[i]? = some (.cells vs true)) : HeapOK P B σ (h.set i (.cells (vs.take n) true)) w := by
  obtain ⟨l, hl⟩ := k.sg hi
  have hlt : i < h.length := get_some_lt hi
  refine ⟨by simp [k.len], k.low, ?_, ?_⟩
  · intro j o l' hj hl'
    rw [List.getElem?_set] at hj
    by_cases hij : i = j
    · subst hij
      simp only [if_true, hlt, Option.some.injEq] at hj; subst hj
      have := k.obj i _ _ hi hl'
      cases l' with
      | none => simp only [ObjOK] at this ⊢; simp [this]
      | some l' =>
        obtain ⟨h0, h1, h2⟩ := this
        refine ⟨h0, fun m x hx => ?_, fun _ => ?_⟩
        · rw [List.getElem?_take] at hx
          split at hx
          · exact h1 m x hx
          · cases hx
        · obtain ⟨hB, hb, arr, e, hblk, htot, hfit⟩ := h2 rfl
          exact ⟨hB, hb, arr, e, hblk, htot, by simp; omega⟩
    · simp only [hij, if_false] at hj
      exact k.obj j o l' hj hl'
  · intro a b oa ob la lb ha hb hoa hlb hla hlb' hne
    have conv : ∀ (x : Nat) (ox : AObj), (h.set i (.cells (vs.take n) true))[x]? = some ox → ∃ ox', h[x]? = some ox' ∧ ox'.isOwn = ox.isOwn ∧ ox'.live = ox.live := by
      intro x ox hx
      rw [List.getElem?_set] at hx
      by_cases hix : i = x
      · subst hix
        simp only [if_true, hlt, Option.some.injEq] at hx; subst hx
        exact ⟨_, hi, rfl, rfl⟩
      · simp only [hix, if_false] at hx
        exact ⟨ox, hx, rfl, rfl⟩
    obtain ⟨oa', ha', ea, _⟩ := conv a oa ha
    obtain ⟨ob', hb', _, eb⟩ := conv b ob hb
    exact k.uniq a b oa' ob' la lb ha' hb' (by rw [ea]; exact hoa) (by rw [eb]; exact hlb) hla hlb' hne

theorem HeapOK.virtual {B : Nat} {σ : Sg} {h : Heap} {w : World} (k : HeapOK P B σ h w) (own : Bool) : HeapOK P B (σ ++ [none]) (h ++ [.cells [] own]) w := by
  refine ⟨by simp [k.len], k.low, ?_, ?_⟩
  · intro i o l hi hl
    rcases append_cases hi with ⟨h1, h2⟩ | ⟨h1, h2⟩
    · rw [List.getElem?_append_left (by rw [k.len]; exact h1)] at hl
      exact (k.obj i o l h2 hl).mono (Ext.app _ _)
    · subst h1; subst h2
      rw [← k.len] at hl; simp at hl; subst hl
      rfl
  · intro i j oi oj li lj hi hj ho hv hli hlj hne
    rcases append_cases hi with ⟨h1, h2⟩ | ⟨h1, h2⟩ <;> rcases append_cases hj with ⟨h3, h4⟩ | ⟨h3, h4⟩
    · rw [List.getElem?_append_left (by rw [k.len]; exact h1)] at hli
      rw [List.getElem?_append_left (by rw [k.len]; exact h3)] at hlj
      exact k.uniq i j oi oj li lj h2 h4 ho hv hli hlj hne
    · subst h3; rw [← k.len] at hlj; simp at hlj
    · subst h1; rw [← k.len] at hli; simp at hli
    · omega

theorem HeapOK.alias {B : Nat} {σ : Sg} {h : Heap} {w : World} (k : HeapOK P B σ h w) {i off : Nat} {vs vs' : List AV} {l : Loc}
    (hi : h[i]? = some (.cells vs false)) (hl : σ[i]? = some (some l)) (hv : ∀ (j : Nat) (v : AV), vs'[j]? = some v → vs[off + j]? = some v) :
    HeapOK P B (σ ++ [some ⟨l.blk, l.base + off, l.tot⟩]) (h ++ [.cells vs' false]) w := by
  refine ⟨by simp [k.len], k.low, ?_, ?_⟩
  · intro j o l' hj hl'
    rcases append_cases hj with ⟨h1, h2⟩ | ⟨h1, h2⟩
    · rw [List.getElem?_append_left (by rw [k.len]; exact h1)] at hl'
      exact (k.obj j o l' h2 hl').mono (Ext.app _ _)
    · subst h1; subst h2
      rw [← k.len] at hl'; simp at hl'; subst hl'
      obtain ⟨h0, h1, _⟩ := k.obj i _ _ hi hl
      refine ⟨h0, fun j v hj => ?_, fun h => by cases h⟩
      obtain ⟨c, a, b⟩ := h1 _ _ (hv j v hj)
      exact ⟨c, by rw [Nat.add_assoc]; exact a, Rel.mono (Ext.app _ _) _ _ b⟩
  · intro a b oa ob la lb ha hb ho hlv hla hlb hne
    rcases append_cases ha with ⟨h1, h2⟩ | ⟨h1, h2⟩ <;> rcases append_cases hb with ⟨h3, h4⟩ | ⟨h3, h4⟩
    · rw [List.getElem?_append_left (by rw [k.len]; exact h1)] at hla
      rw [List.getElem?_append_left (by rw [k.len]; exact h3)] at hlb
      exact k.uniq a b oa ob la lb h2 h4 ho hlv hla hlb hne
    · rw [List.getElem?_append_left (by rw [k.len]; exact h1)] at hla
      subst h3; subst h4
      rw [← k.len] at hlb; simp at hlb; subst hlb
      have : a ≠ i := by
        intro e; subst e; rw [h2] at hi; cases hi; simp [AObj.isOwn] at ho
      exact k.uniq a i oa _ la l h2 hi ho rfl hla hl this
    · subst h2; simp [AObj.isOwn] at ho
    · omega

structure Ctl (w w' : World) : Prop where
  size : w.heap.size ≤ w'.heap.size
  loop : ∀ (k : Nat) (r : Loop), w.heap[k]? = some (.loop r) → ∃ r', w'.heap[k]? = some (.loop r') ∧ r'.defers = r.defers
  mark : ∀ (k : Nat), w.heap[k]? = some (.deferred (some [])) → w'.heap[k]? = some (.deferred (some []))
theorem Ctl.of {w w' : World} (hs : w.heap.size ≤ w'.heap.size) (h : ∀ (k : Nat) (o : Obj), w.heap[k]? = some o → (∀ a b c, o ≠ .cells a b c) → w'.heap[k]? = some o) : Ctl w w' :=
  ⟨hs, fun k r hr => ⟨r, h k _ hr (by intro a b c e; cases e), rfl⟩, fun k hr => h k _ hr (by intro a b c e; cases e)⟩
theorem Ctl.refl (w : World) : Ctl w w := Ctl.of (Nat.le_refl _) fun _ _ h _ => h
theorem Ctl.trans {a b c : World} (h : Ctl a b) (k : Ctl b c) : Ctl a c := ⟨Nat.le_trans h.size k.size, fun i r hr => by
  obtain ⟨r1, h1, e1⟩ := h.loop i r hr
  obtain ⟨r2, h2, e2⟩ := k.loop i r1 h1
  exact ⟨r2, h2, e2.trans e1⟩, fun i hr => k.mark i (h.mark i hr)⟩
theorem Ctl.alloc (w : World) (o : Obj) : Ctl w (w.alloc o) := Ctl.of (by simp) fun k o' h _ => (Below.heap_alloc w o k (Array.getElem?_eq_some_iff.1 h).1).trans h
theorem Ctl.setRow (w : World) (g : Nat) (cs : Array Value) : Ctl w (w.setRow g cs) := Ctl.of (by simp) fun k o ho hn => by
  by_cases hk : k = g
  · subst hk
    have hlt := (Array.getElem?_eq_some_iff.1 ho).1
    have hv := (Array.getElem?_eq_some_iff.1 ho).2
    show (w.heap.modify k _)[k]? = _
    rw [Array.getElem?_eq_getElem (by rw [Array.size_modify]; exact hlt), Array.getElem_modify_self, hv]
    cases o <;> first | rfl | exact absurd rfl (hn _ _ _)
  · have e : (w.setRow g cs).heap[k]? = w.heap[k]? := setRow_other _ _ _ _ hk
    rw [e]; exact ho
theorem Ctl.putObj (w : World) {g : Nat} {o : Obj} (o' : Obj) (ho : w.heap[g]? = some o) (h1 : ∀ r, o = .loop r → ∃ r', o' = .loop r' ∧ r'.defers = r.defers) (h2 : ∀ d, o ≠ .deferred d) : Ctl w (w.putObj g o') := by
  have hlt := (Array.getElem?_eq_some_iff.1 ho).1
  refine ⟨by simp, fun k r hr => ?_, fun k hr => ?_⟩
  · by_cases hk : k = g
    · subst hk
      rw [World.putObj_heap_same hlt]
      rw [ho] at hr; simp only [Option.some.injEq] at hr
      obtain ⟨r', e1, e2⟩ := h1 r hr
      exact ⟨r', by rw [e1], e2⟩
    · rw [World.putObj_heap_other hk]; exact ⟨r, hr, rfl⟩
  · by_cases hk : k = g
    · subst hk
      rw [ho] at hr; simp only [Option.some.injEq] at hr; exact absurd hr (h2 _)
    · rw [World.putObj_heap_other hk]; exact hr

structure Grow (σ : Sg) (h : Heap) (w : World) (σ' : Sg) (h' : Heap) (w' : World) : Prop where
  os : w'.os = w.os
  tape : w'.tape = w.tape
  output : w'.output = w.output
  size : w.heap.size ≤ w'.heap.size
  frame : ∀ k, k < w.heap.size → (∀ (i : Nat) (o : AObj) (l : Loc), h[i]? = some o → o.isOwn = true → σ[i]? = some (some l) → l.blk ≠ k) → w'.heap[k]? = w.heap[k]?
  owns : ∀ (i : Nat) (o : AObj) (l : Loc), h'[i]? = some o → o.isOwn = true → σ'[i]? = some (some l) →
    w.heap.size ≤ l.blk ∨ ∃ (j : Nat) (p : AObj) (m : Loc), h[j]? = some p ∧ p.isOwn = true ∧ σ[j]? = some (some m) ∧ m.blk = l.blk
  lives : ∀ (i : Nat) (o : AObj) (l : Loc), h'[i]? = some o → o.live = true → σ'[i]? = some (some l) →
    w.heap.size ≤ l.blk ∨ ∃ (j : Nat) (p : AObj) (m : Loc), h[j]? = some p ∧ p.live = true ∧ σ[j]? = some (some m) ∧ m.blk = l.blk
  ctl : Ctl w w'

theorem Grow.refl (σ : Sg) (h : Heap) (w : World) : Grow σ h w σ h w :=
  ⟨rfl, rfl, rfl, Nat.le_refl _, fun _ _ _ => rfl, fun i o l h1 h2 h3 => .inr ⟨i, o, l, h1, h2, h3, rfl⟩, fun i o l h1 h2 h3 => .inr ⟨i, o, l, h1, h2, h3, rfl⟩, Ctl.refl _⟩

theorem Grow.trans {σ σ' σ'' : Sg} {h h' h'' : Heap} {w w' w'' : World} (a : Grow σ h w σ' h' w') (b : Grow σ' h' w' σ'' h'' w'') : Grow σ h w σ'' h'' w'' := by
  refine ⟨b.os.trans a.os, b.tape.trans a.tape, b.output.trans a.output, Nat.le_trans a.size b.size, ?_, ?_, ?_, a.ctl.trans b.ctl⟩
  · intro k hk hno
    rw [b.frame k (Nat.lt_of_lt_of_le hk a.size) ?_, a.frame k hk hno]
    intro i o l h1 h2 h3 e
    rcases a.owns i o l h1 h2 h3 with hle | ⟨j, p, m, g1, g2, g3, g4⟩
    · omega
    · exact hno j p m g1 g2 g3 (g4.trans e)
  · intro i o l h1 h2 h3
    rcases b.owns i o l h1 h2 h3 with hle | ⟨j, p, m, g1, g2, g3, g4⟩
    · exact .inl (Nat.le_trans a.size hle)
    · rcases a.owns j p m g1 g2 g3 with hle | ⟨j', p', m', k1, k2, k3, k4⟩
      · exact .inl (by omega)
      · exact .inr ⟨j', p', m', k1, k2, k3, k4.trans g4⟩
  · intro i o l h1 h2 h3
    rcases b.lives i o l h1 h2 h3 with hle | ⟨j, p, m, g1, g2, g3, g4⟩
    · exact .inl (Nat.le_trans a.size hle)
    · rcases a.lives j p m g1 g2 g3 with hle | ⟨j', p', m', k1, k2, k3, k4⟩
      · exact .inl (by omega)
      · exact .inr ⟨j', p', m', k1, k2, k3, k4.trans g4⟩

theorem Grow.below {B : Nat} {σ σ' : Sg} {h h' : Heap} {w w' : World} (k : HeapOK P B σ h w) (a : Grow σ h w σ' h' w') : Below B w w' := by
  refine ⟨a.os, a.tape, a.output, a.size, fun b hb => a.frame b (Nat.lt_of_lt_of_le hb k.low) ?_⟩
  intro i o l h1 h2 h3 e
  have := k.obj i o _ h1 h3
  cases o with
  | dead => simp [AObj.isOwn] at h2
  | other x =>
    have := this.2.1
    omega
  | cells vs own =>
    simp only [AObj.isOwn] at h2
    have := (this.2.2 h2).1
    omega

theorem Grow.same {σ σ' : Sg} {h h' : Heap} {w : World} (ho : ∀ (i : Nat) (o : AObj) (l : Loc), h'[i]? = some o → o.live = true → σ'[i]? = some (some l) →
    ∃ (j : Nat) (p : AObj) (m : Loc), h[j]? = some p ∧ p.live = true ∧ (o.isOwn = true → p.isOwn = true) ∧ σ[j]? = some (some m) ∧ m.blk = l.blk) : Grow σ h w σ' h' w := by
  refine ⟨rfl, rfl, rfl, Nat.le_refl _, fun _ _ _ => rfl, fun i o l h1 h2 h3 => ?_, fun i o l h1 h2 h3 => ?_, Ctl.refl _⟩
  · obtain ⟨j, p, m, g1, _, g3, g4⟩ := ho i o l h1 (by cases o <;> simp_all [AObj.isOwn, AObj.live]) h3
    exact .inr ⟨j, p, m, g1, g3 h2, g4⟩
  · obtain ⟨j, p, m, g1, g2, _, g4⟩ := ho i o l h1 h2 h3
    exact .inr ⟨j, p, m, g1, g2, g4⟩

theorem Grow.alloc {σ : Sg} {h : Heap} {w : World} (hl : σ.length = h.length) (o : Obj) (ob : AObj) (l : Loc) (hb : l.blk = w.heap.size) :
    Grow σ h w (σ ++ [some l]) (h ++ [ob]) (w.alloc o) := by
  refine ⟨rfl, rfl, rfl, by simp, fun k hk _ => Below.heap_alloc _ _ _ hk, ?_, ?_, Ctl.alloc _ _⟩ <;>
  · intro i oi li h1 h2 h3
    rcases append_cases h1 with ⟨g1, g2⟩ | ⟨g1, g2⟩
    · rw [List.getElem?_append_left (by omega)] at h3
      exact .inr ⟨i, oi, li, g2, h2, h3, rfl⟩
    · subst g1
      rw [← hl] at h3; simp at h3; subst h3
      exact .inl (by omega)

theorem Grow.beside (σ : Sg) (h : Heap) (w : World) (o : Obj) : Grow σ h w σ h (w.alloc o) :=
  ⟨rfl, rfl, rfl, by simp, fun k hk _ => Below.heap_alloc _ _ _ hk, fun i o l h1 h2 h3 => .inr ⟨i, o, l, h1, h2, h3, rfl⟩, fun i o l h1 h2 h3 => .inr ⟨i, o, l, h1, h2, h3, rfl⟩, Ctl.alloc _ _⟩

theorem Grow.write {σ : Sg} {h : Heap} {w : World} {i : Nat} {vs vs' : List AV} {l : Loc} (hi : h[i]? = some (.cells vs true)) (hl : σ[i]? = some (some l)) (arr : Array Value) :
    Grow σ h w σ (h.set i (.cells vs' true)) (w.setRow l.blk arr) := by
  refine ⟨rfl, rfl, rfl, by simp, fun k _ hno => setRow_other _ _ _ _ (fun e => hno i _ l hi rfl hl e.symm), ?_, ?_, Ctl.setRow _ _ _⟩ <;>
  · intro j o m h1 h2 h3
    rw [List.getElem?_set] at h1
    by_cases hij : i = j
    · subst hij
      rw [hl] at h3; simp only [Option.some.injEq] at h3; subst h3
      exact .inr ⟨i, _, l, hi, rfl, hl, rfl⟩
    · simp only [hij, if_false] at h1
      exact .inr ⟨j, o, m, h1, h2, h3, rfl⟩

theorem set_dead {h : Heap} {i : Nat} {j : Nat} {o : AObj} (hj : (h.set i .dead)[j]? = some o) (ho : o.live = true) : h[j]? = some o := by
  rw [List.getElem?_set] at hj
  by_cases hij : i = j
  · subst hij
    split at hj
    · split at hj
      · simp only [Option.some.injEq] at hj; subst hj; simp [AObj.live] at ho
      · cases hj
    · rename_i hne; exact (hne rfl).elim
  · simp only [hij, if_false] at hj; exact hj

theorem Grow.kill (σ : Sg) (h : Heap) (w : World) (i : Nat) : Grow σ h w σ (h.set i .dead) w :=
  Grow.same fun j o l h1 h2 h3 => ⟨j, o, l, set_dead h1 h2, h2, fun h => h, h3, rfl⟩

theorem Grow.move {σ : Sg} {h : Heap} {w : World} (hl : σ.length = h.length) {i : Nat} {o : AObj} {l : Option Loc} (hi : h[i]? = some o) (hσ : σ[i]? = some l) :
    Grow σ h w (σ ++ [l]) (h.set i .dead ++ [o]) w := by
  refine Grow.same fun j oj lj h1 h2 h3 => ?_
  rcases append_cases h1 with ⟨g1, g2⟩ | ⟨g1, g2⟩
  · simp only [List.length_set] at g1
    rw [List.getElem?_append_left (by omega)] at h3
    exact ⟨j, oj, lj, set_dead g2 h2, h2, fun h => h, h3, rfl⟩
  · simp only [List.length_set] at g1
    subst g1; subst g2
    rw [← hl] at h3; simp at h3; subst h3
    exact ⟨i, oj, lj, hi, h2, fun h => h, hσ, rfl⟩

theorem Grow.addNone {σ : Sg} {h : Heap} {w : World} (hl : σ.length = h.length) {ob : AObj} : Grow σ h w (σ ++ [none]) (h ++ [ob]) w := by
  refine Grow.same fun j oj lj h1 h2 h3 => ?_
  rcases append_cases h1 with ⟨g1, g2⟩ | ⟨g1, g2⟩
  · rw [List.getElem?_append_left (by omega)] at h3
    exact ⟨j, oj, lj, g2, h2, fun h => h, h3, rfl⟩
  · subst g1; subst g2
    rw [← hl] at h3; simp at h3

theorem Grow.addRo {σ : Sg} {h : Heap} {w : World} (hl : σ.length = h.length) {l : Loc} {ob : AObj} (hob : ob.isOwn = false) {i : Nat} {o : AObj} {m : Loc} (hi : h[i]? = some o) (ho : o.live = true) (hm : σ[i]? = some (some m)) (hb : m.blk = l.blk) :
    Grow σ h w (σ ++ [some l]) (h ++ [ob]) w := by
  refine Grow.same fun j oj lj h1 h2 h3 => ?_
  rcases append_cases h1 with ⟨g1, g2⟩ | ⟨g1, g2⟩
  · rw [List.getElem?_append_left (by omega)] at h3
    exact ⟨j, oj, lj, g2, h2, fun h => h, h3, rfl⟩
  · subst g1; subst g2
    rw [← hl] at h3; simp at h3; subst h3
    exact ⟨i, o, m, hi, ho, fun h => (by rw [hob] at h; cases h), hm, hb⟩

theorem Grow.shrink {σ : Sg} {h : Heap} {w : World} {i : Nat} {vs vs' : List AV} (hi : h[i]? = some (.cells vs true)) : Grow σ h w σ (h.set i (.cells vs' true)) w := by
  refine Grow.same fun j oj lj h1 h2 h3 => ?_
  rw [List.getElem?_set] at h1
  by_cases hij : i = j
  · subst hij; exact ⟨i, _, lj, hi, rfl, fun _ => rfl, h3, rfl⟩
  · simp only [hij, if_false] at h1; exact ⟨j, oj, lj, h1, h2, fun h => h, h3, rfl⟩

theorem Grow.drew (σ : Sg) (h : Heap) (w : World) : Grow σ h w σ h w.drew :=
  ⟨rfl, rfl, rfl, Nat.le_refl _, fun _ _ _ => rfl, fun i o l h1 h2 h3 => .inr ⟨i, o, l, h1, h2, h3, rfl⟩, fun i o l h1 h2 h3 => .inr ⟨i, o, l, h1, h2, h3, rfl⟩, Ctl.of (Nat.le_refl _) fun _ _ h _ => h⟩

theorem Grow.put {σ : Sg} {h : Heap} {w : World} {i : Nat} {ob ob' : AObj} {l : Loc} (hi : h[i]? = some ob) (ho : ob.isOwn = true) (hl : σ[i]? = some (some l)) (o : Obj) (hc : Ctl w (w.putObj l.blk o)) :
    Grow σ h w σ (h.set i ob') (w.putObj l.blk o) := by
  have hlv : ob.live = true := by cases ob <;> simp_all [AObj.isOwn, AObj.live]
  refine ⟨rfl, rfl, rfl, by simp, fun k _ hno => World.putObj_heap_other (fun e => hno i _ l hi ho hl e.symm), ?_, ?_, hc⟩ <;>
  · intro j o m h1 h2 h3
    rw [List.getElem?_set] at h1
    by_cases hij : i = j
    · subst hij
      rw [hl] at h3; simp only [Option.some.injEq] at h3; subst h3
      exact .inr ⟨i, _, l, hi, by assumption, hl, rfl⟩
    · simp only [hij, if_false] at h1
      exact .inr ⟨j, o, m, h1, h2, h3, rfl⟩

theorem HeapOK.put {B : Nat} {σ : Sg} {h : Heap} {w : World} (k : HeapOK P B σ h w) {i : Nat} {x x' : OObj} {l : Loc}
    (hi : h[i]? = some (.other x)) (hl : σ[i]? = some (some l)) (o : Obj) (hx : OOK P σ x' (some o)) : HeapOK P B σ (h.set i (.other x')) (w.putObj l.blk o) := by
  obtain ⟨h0, h1, h2, h3⟩ := k.obj i _ _ hi hl
  have hlt : i < h.length := get_some_lt hi
  refine ⟨by simp [k.len], by simpa using k.low, ?_, ?_⟩
  · intro j oj l' hj hl'
    rw [List.getElem?_set] at hj
    by_cases hij : i = j
    · subst hij
      simp only [if_true, hlt, Option.some.injEq] at hj; subst hj
      rw [hl] at hl'; simp only [Option.some.injEq] at hl'; subst hl'
      exact ⟨by simpa using h0, h1, h2, by rw [World.putObj_heap_same h0]; exact hx⟩
    · simp only [hij, if_false] at hj
      refine (k.obj j oj l' hj hl').world (by simp) (fun l'' e' hlive => ?_)
      subst e'
      exact World.putObj_heap_other (Ne.symm (k.uniq i j _ _ l l'' hi hj rfl hlive hl hl' hij))
  · intro a b oa ob la lb ha hb hoa hlb hla hlb' hne
    have conv : ∀ (y : Nat) (oy : AObj), (h.set i (.other x'))[y]? = some oy → ∃ oy', h[y]? = some oy' ∧ oy'.isOwn = oy.isOwn ∧ oy'.live = oy.live := by
      intro y oy hy
      rw [List.getElem?_set] at hy
      by_cases hiy : i = y
      · subst hiy
        simp only [if_true, hlt, Option.some.injEq] at hy; subst hy
        exact ⟨_, hi, rfl, rfl⟩
      · simp only [hiy, if_false] at hy
        exact ⟨oy, hy, rfl, rfl⟩
    obtain ⟨oa', ha', ea, _⟩ := conv a oa ha
    obtain ⟨ob', hb', _, eb⟩ := conv b ob hb
    exact k.uniq a b oa' ob' la lb ha' hb' (by rw [ea]; exact hoa) (by rw [eb]; exact hlb) hla hlb' hne

theorem HeapOK.allocO {B : Nat} {σ : Sg} {h : Heap} {w : World} (k : HeapOK P B σ h w) {x : OObj} (o : Obj) (tot : Nat) (hx : OOK P (σ ++ [some ⟨w.heap.size, 0, tot⟩]) x (some o)) :
    HeapOK P B (σ ++ [some ⟨w.heap.size, 0, tot⟩]) (h ++ [.other x]) (w.alloc o) := by
  have hold : ∀ k', k' < w.heap.size → (w.alloc o).heap[k']? = w.heap[k']? := fun k' hk => Below.heap_alloc _ _ _ hk
  have hnew : (w.alloc o).heap[w.heap.size]? = some o := by
    show (w.heap.push _)[w.heap.size]? = _
    simp
  refine ⟨by simp [k.len], by simp; have := k.low; omega, ?_, ?_⟩
  · intro i oi l hi hl
    rcases append_cases hi with ⟨h1, h2⟩ | ⟨h1, h2⟩
    · rw [List.getElem?_append_left (by rw [k.len]; exact h1)] at hl
      refine ((k.obj i oi l h2 hl).mono (Ext.app _ _)).world (by simp) (fun l' e' ho => ?_)
      subst e'
      exact hold _ (k.blk_lt h2 hl ho)
    · subst h1; subst h2
      rw [← k.len] at hl; simp at hl; subst hl
      exact ⟨by simp, k.low, rfl, by rw [hnew]; exact hx⟩
  · intro i j oi oj li lj hi hj ho hv hli hlj hne
    rcases append_cases hi with ⟨h1, h2⟩ | ⟨h1, h2⟩ <;> rcases append_cases hj with ⟨h3, h4⟩ | ⟨h3, h4⟩
    · rw [List.getElem?_append_left (by rw [k.len]; exact h1)] at hli
      rw [List.getElem?_append_left (by rw [k.len]; exact h3)] at hlj
      exact k.uniq i j oi oj li lj h2 h4 ho hv hli hlj hne
    · rw [List.getElem?_append_left (by rw [k.len]; exact h1)] at hli
      subst h3
      rw [← k.len] at hlj; simp at hlj; subst hlj
      have : oi.live = true := by cases oi <;> simp_all [AObj.isOwn, AObj.live]
      have := k.blk_lt h2 hli this
      simp; omega
    · rw [List.getElem?_append_left (by rw [k.len]; exact h3)] at hlj
      subst h1
      rw [← k.len] at hli; simp at hli; subst hli
      have := k.blk_lt h4 hlj hv
      simp; omega
    · omega

theorem HeapOK.world {B : Nat} {σ : Sg} {h : Heap} {w w' : World} (k : HeapOK P B σ h w) (hs : w.heap.size ≤ w'.heap.size) (hb : ∀ b, b < w.heap.size → w'.heap[b]? = w.heap[b]?) : HeapOK P B σ h w' :=
  ⟨k.len, Nat.le_trans k.low hs, fun i o l hi hl => (k.obj i o l hi hl).world hs (fun l' e ho => hb _ (k.blk_lt hi (by rw [hl, e]) ho)), k.uniq⟩

end Go.Abs
