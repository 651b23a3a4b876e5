/- Each abstract operation says what the model's operation does. Second half. -/
import Derived.Test.YtbfihdpmphlckaaA3
set_option linter.unusedSimpArgs false
set_option linter.unusedVariables false
namespace Go.Abs
open Go.RowKit
variable {P : Program}

section
variable {P : Program} {B : Nat} {σ : Sg} {h : Heap} {w : World} {a : Act} {t : List (Nat × AV)} {K : AV → Heap → Prop}
variable {dst : Option Tmp} {ty : TypeId} {pos : String} {after : Array Edge} {guard : Option (Nat × Bool)}

theorem foldl_set_toList : ∀ (vs : List Value) (k off : Nat) (cs : Array Value), off + k + vs.length ≤ cs.size →
    ((vs.zipIdx k).foldl (fun (cs : Array Value) (p : Value × Nat) => cs.setIfInBounds (off + p.2) p.1) cs).toList = cs.toList.take (off + k) ++ vs ++ cs.toList.drop (off + k + vs.length)
  | [], k, off, cs, _ => by simp
  | v :: vs, k, off, cs, hl => by
    simp only [List.zipIdx_cons, List.foldl_cons]
    rw [foldl_set_toList vs (k + 1) off _ (by simp at hl ⊢; omega)]
    have hk : off + k < cs.toList.length := by simp at hl ⊢; omega
    simp only [Array.toList_setIfInBounds, List.length_cons]
    rw [show off + (k + 1) = off + k + 1 by omega, show off + k + (vs.length + 1) = off + k + 1 + vs.length by omega]
    rw [List.drop_set_of_lt (by omega)]
    have : (cs.toList.set (off + k) v).take (off + k + 1) = cs.toList.take (off + k) ++ [v] := by
      rw [List.take_succ_eq_append_getElem (by simpa using hk)]
      simp [List.take_set]
      exact List.set_eq_of_length_le (by simp; omega)
    rw [this]; simp

theorem fill_rel (ht : TOK σ t a) (place : Nat → Option (Nat × Nat)) : ∀ (ps : List (Nat × Operand)) (aps : List (Nat × Nat × AOpd)), cparts place ps = some aps →
    ∀ (cs : Array Value) (zs out : List AV), RelL σ zs cs.toList → fillA (AOpd.ev t) zs aps = some out →
      ∃ cells, Instr.fill place cs (ps.map (fun p => (p.1, a.eval p.2))) = some cells ∧ RelL σ out cells.toList
  | [], aps, hp, cs, zs, out, hr, hf => by
    simp only [cparts, Option.some.injEq] at hp; subst hp
    simp only [fillA, Option.some.injEq] at hf; subst hf
    exact ⟨cs, rfl, hr⟩
  | (i, x) :: ps, aps, hp, cs, zs, out, hr, hf => by
    simp only [cparts] at hp
    split at hp
    · rename_i off n ax as h1 h2 h3
      simp only [Option.some.injEq] at hp; subst hp
      simp only [fillA] at hf
      split at hf
      · rename_i vs hvs
        split at hf
        · rename_i hc
          have hrel := cellsOf_rel hvs (copd_rel ht h2)
          have hl1 : vs.length = (a.eval x).cells.size := by simpa using hrel.length
          have hl2 : zs.length = cs.size := by simpa using hr.length
          have hsz : ¬ ((a.eval x).cells.size ≠ n ∨ cs.size < off + (a.eval x).cells.size) := by omega
          have hfold := foldl_set_toList (a.eval x).cells.toList 0 off cs (by simp; omega)
          obtain ⟨cells, g1, g2⟩ := fill_rel ht place ps as h3 ((a.eval x).cells.zipIdx.foldl (fun (cs : Array Value) (p : Value × Nat) => cs.setIfInBounds (off + p.2) p.1) cs) _ out (by
            have e : ((a.eval x).cells.zipIdx.foldl (fun (cs : Array Value) (p : Value × Nat) => cs.setIfInBounds (off + p.2) p.1) cs).toList =
              cs.toList.take off ++ (a.eval x).cells.toList ++ cs.toList.drop (off + vs.length) := by
              rw [hl1]
              have := hfold
              simp only [Nat.add_zero] at this
              rw [show (a.eval x).cells.size = (a.eval x).cells.toList.length by simp, ← this]
              congr 1
              rw [← Array.foldl_toList]; simp
            rw [e]
            exact RelL.append (RelL.append (RelL.take _ hr) hrel) (RelL.drop _ hr)) hf
          refine ⟨cells, ?_, g2⟩
          simp only [List.map_cons, Instr.fill, h1]
          have : ((a.eval x).cells.size != n || decide (off + (a.eval x).cells.size > cs.size)) = false := by
            simp; omega
          simp only [ne_eq, bne_iff_ne] at this ⊢
          rw [if_neg (by simpa using this)]
          exact g1
        · cases hf
      · cases hf
    · cases hp

theorem snd_build (hk : HeapOK P B σ h w) (ht : TOK σ t a) {e : TypeId} {parts : Array (Nat × Operand)} {zs : List AV} {pl : Nat → Option (Nat × Nat)} {aps : List (Nat × Nat × AOpd)}
    (hz : tyZero P e = some zs) (hpl : placesOf P e = some pl) (hp : cparts pl parts.toList = some aps)
    (hs : (AOp.build zs aps).sem (AOpd.ev t) h K) : Res P B σ h w ⟨dst, .build e parts, ty, pos, after, guard⟩ a K := by
  obtain ⟨i, z, hi, hz0, hz1⟩ := info_zero hz
  simp only [AOp.sem] at hs
  split at hs
  · rename_i cs hcs
    obtain ⟨cells, g1, g2⟩ := fill_rel ht pl _ _ hp z.cells zs cs (scalarsAV_rel σ hz1) hcs
    refine Res.pure hk (c := .agg cells) (v := .agg cs) ?_ ⟨_, rfl, g2⟩ hs
    have hb : P.built e (parts.map fun p => (p.1, a.eval p.2)).toList = some cells := by
      unfold Program.built
      unfold placesOf at hpl
      rw [Array.toList_map]
      split at hpl
      · rename_i fields hu
        split at hpl
        · rename_i places hp'
          simp only [Option.some.injEq] at hpl; subst hpl
          simp only [hi, hu, hz0, hp']
          simpa using g1
        · cases hpl
      · rename_i n e' hu
        split at hpl
        · rename_i ie hie
          simp only [Option.some.injEq] at hpl; subst hpl
          simp only [hi, hu, hz0, hie]
          exact g1
        · cases hpl
      · cases hpl
    have := run_build (P := P) w e _ cells hb
    simp only [execOp, Sem.run_bind]
    rw [show (parts.map fun x => match x with | (i, x) => (i, a.eval x)) = parts.map fun p => (p.1, a.eval p.2) from rfl, this]
    simp
  · cases hs

theorem repl_rel {zs : List AV} {cs : List Value} (hr : RelL σ zs cs) : ∀ n, RelL σ (List.replicate n zs).flatten (List.replicate n cs).flatten
  | 0 => rfl
  | n + 1 => by simpa [List.replicate_succ] using RelL.append hr (repl_rel hr n)

theorem zero_cells_eq (z : Array Value) (hz : 0 < z.size) : ∀ n, ((Array.range (n * z.size)).map (fun i => z[i % z.size]!)).toList = (List.replicate n z.toList).flatten
  | 0 => by simp
  | n + 1 => by
    rw [List.replicate_succ', List.flatten_append, ← zero_cells_eq z hz n, Nat.succ_mul]
    apply List.ext_getElem
    · simp
    · intro i h1 h2
      simp only [Array.toList_map, Array.toList_range, List.getElem_map, List.getElem_range]
      by_cases hi : i < n * z.size
      · rw [List.getElem_append_left (by simpa using hi)]; simp
      · rw [List.getElem_append_right (by simpa using hi)]
        simp at h1
        have e : i % z.size = i - n * z.size := by
          have h3 : i = (i - n * z.size) + z.size * n := by rw [Nat.mul_comm z.size n]; omega
          rw [h3, Nat.add_mul_mod_self_left, Nat.mod_eq_of_lt (by omega), Nat.mul_comm z.size n]; omega
        simp [e]
        rw [getElem!_pos z (i - n * z.size) (by omega)]

theorem bslice_run (ht : TOK σ t a) {s e : TypeId} {len sz : Nat} {parts : Array (Nat × Operand)} {zs cs : List AV} {aps : List (Nat × Nat × AOpd)}
    (hu : P.underlying s = some (.slice e)) (hsz : tySize P e = some sz) (hz : tyZero P e = some zs) (hpos : 0 < sz) (hzl : zs.length = sz) (hmax : len * sz ≤ 2 ^ 24)
    (hp : cparts (fun i => some (i * sz, sz)) parts.toList = some aps) (hcs : fillA (AOpd.ev t) (List.replicate len zs).flatten aps = some cs) :
    ∃ cells : Array Value, RelL σ cs cells.toList ∧ cells.size = len * sz ∧
      (execOp a.eval ⟨dst, .buildSlice s len parts, ty, pos, after, guard⟩).run P w = .ok (.value (.slice (some ⟨w.heap.size, 0, none⟩) len len)) (w.alloc (.cells cells e)) := by
  obtain ⟨i, z, hi, hz0, hz1⟩ := info_zero hz
  have hi' : i.size = sz := by simpa [tySize, hi] using hsz
  have hrel := scalarsAV_rel σ hz1
  have hzs : z.cells.size = sz := by have := hrel.length; simp at this; omega
  have hzero : ((Array.range (len * sz)).map (fun i => z.cells[i % z.cells.size]!)).toList = (List.replicate len z.cells.toList).flatten := by
    have := zero_cells_eq z.cells (by omega) len
    rw [hzs] at this
    rw [hzs]; exact this
  obtain ⟨cells, g1, g2⟩ := fill_rel ht _ _ _ hp ((Array.range (len * sz)).map (fun i => z.cells[i % z.cells.size]!)) _ cs (by rw [hzero]; exact repl_rel hrel len) hcs
  have hcl : cells.size = len * sz := by
    have h1 := g2.length
    have h2 : ∀ (aps : List (Nat × Nat × AOpd)) (zs out : List AV), fillA (AOpd.ev t) zs aps = some out → out.length = zs.length := by
      intro aps
      induction aps with
      | nil => intro zs out hf; simp only [fillA, Option.some.injEq] at hf; subst hf; rfl
      | cons p ps ih =>
        intro zs out hf
        obtain ⟨off, n, x⟩ := p
        simp only [fillA] at hf
        split at hf
        · split at hf
          · rename_i hc
            rw [ih _ _ hf, splice_len (by omega)]
          · cases hf
        · cases hf
    have h3 := h2 _ _ _ hcs
    have h4 : ((List.replicate len zs).flatten).length = len * sz := by simp [hzl]
    simp at h1; omega
  refine ⟨cells, g2, hcl, ?_⟩
  have hlim : ¬ (16777216 < len * sz) := by omega
  simp only [execOp, Instr.buildSlice, Sem.run_bind, run_underlying hu, Result.andThen_ok, size_run hsz]
  by_cases h0 : len * sz = 0
  · have : (Array.range (len * sz)).map (fun i => z.cells[i % z.cells.size]!) = #[] := by simp [h0]
    rw [this] at g1
    simp [hlim, h0, newRow]
    have e0 : Array.map (fun _ : Nat => (default : Value)) (Array.range 0) = #[] := by simp
    rw [e0]
    simp [g1]
  · simp [hlim, h0, newRow, zeroValue, typeInfo, hi, hz0]
    simp [g1]

theorem snd_buildSlice (hk : HeapOK P B σ h w) (ht : TOK σ t a) {s e : TypeId} {len sz : Nat} {parts : Array (Nat × Operand)} {zs : List AV} {aps : List (Nat × Nat × AOpd)}
    (hu : P.underlying s = some (.slice e)) (hsz : tySize P e = some sz) (hz : tyZero P e = some zs) (hpos : 0 < sz) (hzl : zs.length = sz) (hmax : len * sz ≤ 2 ^ 24)
    (hp : cparts (fun i => some (i * sz, sz)) parts.toList = some aps)
    (hs : (AOp.buildSlice (List.replicate len zs).flatten aps len sz).sem (AOpd.ev t) h K) : Res P B σ h w ⟨dst, .buildSlice s len parts, ty, pos, after, guard⟩ a K := by
  simp only [AOp.sem] at hs
  split at hs
  · rename_i cs hcs
    obtain ⟨cells, g2, hcl, hrun⟩ := bslice_run (w := w) (dst := dst) (ty := ty) (pos := pos) (after := after) (guard := guard) ht hu hsz hz hpos hzl hmax hp hcs
    have hal := hk.alloc (tail := []) e g2
    refine ⟨.slice (some ⟨w.heap.size, 0, none⟩) len len, w.alloc (.cells cells e), _, _, _, .inl hrun, by simpa using hal, ?_, Grow.alloc hk.len _ _ _ rfl, hs⟩
    refine .inr ⟨⟨w.heap.size, 0, _⟩, 0, len, by rw [← hk.len]; simp; rfl, rfl, Nat.le_refl _, fun _ => rfl, .inr ⟨rfl, ?_⟩⟩
    simp [hcl]
  · cases hs

theorem snd_nilCheck (hk : HeapOK P B σ h w) (ht : TOK σ t a) {x : Operand} {ax : AOpd} (hx : copd x = some ax)
    (hs : (AOp.nilCheck ax).sem (AOpd.ev t) h K) : Res P B σ h w ⟨dst, .nilCheck x, ty, pos, after, guard⟩ a K := by
  have rx := copd_rel ht hx
  simp only [AOp.sem] at hs
  split at hs
  · rename_i id off hp
    rw [hp] at rx
    have rx' := rx
    obtain ⟨l, hl, hv⟩ := rx
    exact Res.pure hk (c := a.eval x) (by simp [execOp, hv]) rx' hs
  · rename_i f fs cs hp
    rw [hp] at rx
    have rx' := rx
    obtain ⟨u, v, hv, _⟩ := rx
    exact Res.pure hk (c := a.eval x) (by simp [execOp, hv]) rx' hs
  · cases hs

theorem bin_run {op : BinOp} {e : TypeId} {x y : Operand} {u v : Value} {av bv r : AV} (hu : Rel σ av u) (hv : Rel σ bv v) (hr : binA op av bv = some r) :
    ∃ c, (do eqGuard op e x y u v; binOp op e u v : Sem Value).run P w = .ok c w ∧ Rel σ r c := by
  unfold binA at hr
  split at hr
  · rename_i k p k' q
    simp only [Rel] at hu hv
    subst hu; subst hv
    split at hr
    · rename_i hkk
      subst hkk
      cases op <;> simp only [Option.some.injEq, reduceCtorEq] at hr <;> subst hr <;>
        exact ⟨_, by simp [eqGuard, binOp, Op.intArith, Op.intCmp, Op.intBits]; rfl, by simp [Rel]; try rfl⟩
    · cases hr
  · rename_i p q
    simp only [Rel] at hu hv
    subst hu; subst hv
    split at hr
    · split at hr
      · rename_i hsz
        simp only [Option.some.injEq] at hr; subst hr
        exact ⟨.string (p ++ q), by simp [eqGuard, binOp, Op.stringOp, IntKind.max, IntKind.bits, IntKind.signed]; omega, rfl⟩
      · cases hr
    · simp only [Option.some.injEq] at hr; subst hr
      exact ⟨_, by simp [eqGuard, binOp, Op.stringOp], rfl⟩
    · simp only [Option.some.injEq] at hr; subst hr
      exact ⟨_, by simp [eqGuard, binOp, Op.stringOp], rfl⟩
    · cases hr
  · cases hr
end
end Go.Abs
