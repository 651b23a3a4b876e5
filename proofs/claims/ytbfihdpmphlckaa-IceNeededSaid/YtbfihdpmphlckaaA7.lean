/- Each abstract operation says what the model's operation does. Fifth part, and all of them. -/
import Derived.Test.YtbfihdpmphlckaaA6
import Derived.WideKeyRuns
import Derived.Laws.Slices
import Derived.Laws.StructEq
set_option linter.unusedSimpArgs false
set_option linter.unusedVariables false
namespace Go.Abs
open Go.RowKit
variable {P : Program}

section
variable {P : Program} {B : Nat} {σ : Sg} {h : Heap} {w : World} {a : Act} {t : List (Nat × AV)} {K : AV → Heap → Prop}
variable {dst : Option Tmp} {ty : TypeId} {pos : String} {after : Array Edge} {guard : Option (Nat × Bool)}

theorem bound_rel (ht : TOK σ t a) {x : Option Operand} {ax : Option AOpd} (hx : (x = none ∧ ax = none) ∨ ∃ y ay, x = some y ∧ ax = some ay ∧ copd y = some ay) {d : AV} {k : IntKind} {l : Int}
    (hd : (ax.map (AOpd.ev t)).getD d = .int k l) : (x = none ∧ d = .int k l) ∨ ∃ y, x = some y ∧ a.eval y = .int k l := by
  rcases hx with ⟨rfl, rfl⟩ | ⟨y, ay, rfl, rfl, hc⟩
  · exact .inl ⟨rfl, by simpa using hd⟩
  · refine .inr ⟨y, rfl, ?_⟩
    have := copd_rel ht hc
    simp only [Option.map_some, Option.getD_some] at hd
    rw [hd] at this; exact this

theorem snd_slice (hk : HeapOK P B σ h w) (ht : TOK σ t a) {s e : TypeId} {sz : Nat} {x : Operand} {lo hi : Option Operand} {ax : AOpd} {alo ahi : Option AOpd} (hx : copd x = some ax)
    (hlo : (lo = none ∧ alo = none) ∨ ∃ y ay, lo = some y ∧ alo = some ay ∧ copd y = some ay) (hhi : (hi = none ∧ ahi = none) ∨ ∃ y ay, hi = some y ∧ ahi = some ay ∧ copd y = some ay)
    (hu : P.underlying s = some (.slice e)) (hn : tySize P e = some sz)
    (hs : (AOp.slice ax alo ahi sz).sem (AOpd.ev t) h K) : Res P B σ h w ⟨dst, .slice s x lo hi none, ty, pos, after, guard⟩ a K := by
  have rx := copd_rel ht hx
  simp only [AOp.sem] at hs
  split at hs
  · rename_i id off ln sz' ex k l hp hl
    rw [hp] at rx
    split at hs
    · rename_i k' m hm
      obtain ⟨rfl, h0, h1, h2, hK⟩ := hs
      have el : (l.toNat : Int) = l := Int.toNat_of_nonneg h0
      have em : (m.toNat : Int) = m := Int.toNat_of_nonneg (by omega)
      have hlo' := bound_rel ht hlo hl
      have hhi' := bound_rel ht hhi hm
      have run : ∀ (ba : Option Addr) (c : Nat), a.eval x = .slice ba ln c → ln ≤ c →
          (execOp a.eval ⟨dst, .slice s x lo hi none, ty, pos, after, guard⟩).run P w = .ok (.value (.slice (if c = l.toNat then ba else ba.map (·.add (l.toNat * sz'))) (m.toNat - l.toNat) (c - l.toNat))) w := by
        intro ba c hv hc
        have hb : (Instr.sliceBounds true ln c (lo.map a.eval) (hi.map a.eval) none).run P w = .ok (l.toNat, m.toNat, c) w := by
          have hm' : 0 ≤ m := by omega
          have hmc : m ≤ (c : Int) := by omega
          rcases hlo' with ⟨rfl, hd⟩ | ⟨y, rfl, hd⟩
          · simp only [AV.int.injEq] at hd
            obtain ⟨_, hd⟩ := hd
            subst hd
            rcases hhi' with ⟨rfl, hd⟩ | ⟨y, rfl, hd⟩
            · simp only [AV.int.injEq] at hd
              obtain ⟨_, hd⟩ := hd
              subst hd
              simp [Instr.sliceBounds]
            · simp [Instr.sliceBounds, hd, run_sliceBound, hm', hmc]
          · rcases hhi' with ⟨rfl, hd'⟩ | ⟨y', rfl, hd'⟩
            · simp only [AV.int.injEq] at hd'
              obtain ⟨_, hd'⟩ := hd'
              subst hd'
              simp [Instr.sliceBounds, hd, run_sliceBound, h0, h1]
            · simp [Instr.sliceBounds, hd, hd', run_sliceBound, hm', hmc, h0, em, h1]
        simp only [execOp, hv, Sem.run_bind, Option.map_none]
        simp [Instr.sliceAt, run_underlying hu, Instr.slice, hb, size_run hn]
      rcases rx with ⟨g1, g2, b0, g3⟩ | ⟨lc, o, c, hl', hv, hlc, hex, hbd⟩
      · subst g2
        have hl0 : l = 0 := by omega
        have hm0 : m = 0 := by omega
        subst hl0; subst hm0
        refine Res.pure hk (c := .slice b0 0 0) (by rw [run b0 0 g3 (Nat.le_refl _)]; simp) ?_ hK
        exact .inl ⟨g1, by simp, _, rfl⟩
      · refine Res.pure hk (run _ c hv hlc) ?_ hK
        by_cases hcl : c = l.toNat
        · rw [if_pos hcl]
          refine .inr ⟨lc, o, c - l.toNat, hl', rfl, by omega, fun _ => by omega, .inl (by omega)⟩
        · rw [if_neg hcl]
          refine .inr ⟨lc, o + l.toNat * sz', c - l.toNat, hl', by simp [addr_add], by omega, ?_, .inr ?_⟩
          · intro hh
            simp only [Bool.and_eq_true, decide_eq_true_eq] at hh
            have := hex hh.1
            omega
          · obtain ⟨p, q⟩ := hbd.resolve_left (by omega)
            refine ⟨by omega, ?_⟩
            have e3 : c = (c - l.toNat) + l.toNat := by omega
            have : c * sz' = (c - l.toNat) * sz' + l.toNat * sz' := by rw [← Nat.add_mul, ← e3]
            omega
    · cases hs
  · rename_i k l hp hl
    rw [hp] at rx
    split at hs
    · rename_i k' m hm
      obtain ⟨rfl, rfl, hK⟩ := hs
      have hlo' := bound_rel ht hlo hl
      have hhi' := bound_rel ht hhi hm
      have hv : a.eval x = .slice none 0 0 := rx
      refine Res.pure hk (c := .slice none 0 0) ?_ (by exact rfl) hK
      have hb : (Instr.sliceBounds true 0 0 (lo.map a.eval) (hi.map a.eval) none).run P w = .ok (0, 0, 0) w := by
        rcases hlo' with ⟨rfl, hd⟩ | ⟨y, rfl, hd⟩
        · rcases hhi' with ⟨rfl, hd⟩ | ⟨y, rfl, hd⟩
          · simp [Instr.sliceBounds]
          · simp [Instr.sliceBounds, hd, run_sliceBound]
        · rcases hhi' with ⟨rfl, hd'⟩ | ⟨y', rfl, hd'⟩
          · simp [Instr.sliceBounds, hd, run_sliceBound]
          · simp [Instr.sliceBounds, hd, hd', run_sliceBound]
      simp only [execOp, hv, Sem.run_bind, Option.map_none]
      simp [Instr.sliceAt, run_underlying hu, Instr.slice, hb, size_run hn]
    · cases hs
  · cases hs

theorem snd_slice3 (hk : HeapOK P B σ h w) (ht : TOK σ t a) {s e : TypeId} {sz : Nat} {x y z : Operand} {lo : Option Operand} {ax ay az : AOpd} {alo : Option AOpd} (hx : copd x = some ax)
    (hlo : (lo = none ∧ alo = none) ∨ ∃ y ay, lo = some y ∧ alo = some ay ∧ copd y = some ay) (hy : copd y = some ay) (hz : copd z = some az)
    (hu : P.underlying s = some (.slice e)) (hn : tySize P e = some sz)
    (hs : (AOp.slice3 ax alo ay az sz).sem (AOpd.ev t) h K) : Res P B σ h w ⟨dst, .slice s x lo (some y) (some z), ty, pos, after, guard⟩ a K := by
  have rx := copd_rel ht hx
  have ry := copd_rel ht hy
  have rz := copd_rel ht hz
  simp only [AOp.sem] at hs
  split at hs
  · rename_i id off ln sz' ex k l k' m k'' q hp hl hm hq
    rw [hp] at rx; rw [hm] at ry; rw [hq] at rz
    simp only [Rel] at ry rz
    obtain ⟨rfl, h0, h1, h2, h3, hK⟩ := hs
    have el : (l.toNat : Int) = l := Int.toNat_of_nonneg h0
    have em : (m.toNat : Int) = m := Int.toNat_of_nonneg (by omega)
    have eq' : (q.toNat : Int) = q := Int.toNat_of_nonneg (by omega)
    have hlo' := bound_rel ht hlo hl
    have run : ∀ (ba : Option Addr) (c : Nat), a.eval x = .slice ba ln c → ln ≤ c →
        (execOp a.eval ⟨dst, .slice s x lo (some y) (some z), ty, pos, after, guard⟩).run P w = .ok (.value (.slice (if q.toNat = l.toNat then ba else ba.map (·.add (l.toNat * sz'))) (m.toNat - l.toNat) (q.toNat - l.toNat))) w := by
      intro ba c hv hc
      have hb : (Instr.sliceBounds true ln c (lo.map a.eval) (some (a.eval y)) (some (a.eval z))).run P w = .ok (l.toNat, m.toNat, q.toNat) w := by
        have hm' : 0 ≤ m := by omega
        have hq' : 0 ≤ q := by omega
        have hqc : q ≤ (c : Int) := by omega
        rcases hlo' with ⟨rfl, hd⟩ | ⟨y, rfl, hd⟩
        · simp only [AV.int.injEq] at hd
          obtain ⟨_, hd⟩ := hd
          subst hd
          simp [Instr.sliceBounds, ry, rz, run_sliceBound, hm', hq', hqc, eq', h2]
        · simp [Instr.sliceBounds, ry, rz, hd, run_sliceBound, hm', hq', hqc, eq', h2, h0, em, h1]
      simp only [execOp, hv, Sem.run_bind, Option.map_some]
      simp [Instr.sliceAt, run_underlying hu, Instr.slice, hb, size_run hn]
    rcases rx with ⟨g1, g2, b0, g3⟩ | ⟨lc, o, c, hl', hv, hlc, hex, hbd⟩
    · subst g2
      have hl0 : l = 0 := by omega
      have hm0 : m = 0 := by omega
      have hq0 : q = 0 := by omega
      subst hl0; subst hm0; subst hq0
      refine Res.pure hk (c := .slice b0 0 0) (by rw [run b0 0 g3 (Nat.le_refl _)]; simp) ?_ hK
      exact .inl ⟨g1, by simp, _, rfl⟩
    · refine Res.pure hk (run _ c hv hlc) ?_ hK
      by_cases hcl : q.toNat = l.toNat
      · rw [if_pos hcl]
        refine .inr ⟨lc, o, q.toNat - l.toNat, hl', rfl, by omega, fun _ => by omega, .inl (by omega)⟩
      · rw [if_neg hcl]
        refine .inr ⟨lc, o + l.toNat * sz', q.toNat - l.toNat, hl', by simp [addr_add], by omega, ?_, .inr ?_⟩
        · intro hh
          simp only [decide_eq_true_eq] at hh
          omega
        · obtain ⟨p, r⟩ := hbd.resolve_left (by omega)
          refine ⟨by omega, ?_⟩
          have e3 : q.toNat = (q.toNat - l.toNat) + l.toNat := by omega
          have e4 : q.toNat * sz' = (q.toNat - l.toNat) * sz' + l.toNat * sz' := by rw [← Nat.add_mul, ← e3]
          have e5 : q.toNat * sz' ≤ c * sz' := Nat.mul_le_mul_right _ (by omega)
          omega
  · cases hs

theorem copds_two (ht : TOK σ t a) {xs : List Operand} {ax ay : AOpd} (h : copds xs = some [ax, ay]) : ∃ x y, xs = [x, y] ∧ copd x = some ax ∧ copd y = some ay := by
  match xs, h with
  | [], h => simp [copds] at h
  | [x], h =>
    simp only [copds] at h
    split at h <;> simp_all
  | [x, y], h =>
    simp only [copds] at h
    cases h1 : copd x with
    | none => simp [h1] at h
    | some p =>
      cases h2 : copd y with
      | none => simp [h1, h2] at h
      | some q =>
        simp only [h1, h2, Option.some.injEq, List.cons.injEq, and_true] at h
        exact ⟨x, y, rfl, by rw [h1, h.1], by rw [h2, h.2]⟩
  | x :: y :: z :: r, h =>
    simp only [copds] at h
    cases h1 : copd x <;> cases h2 : copd y <;> cases h3 : copd z <;> cases h4 : copds r <;> simp_all

theorem snd_min (hk : HeapOK P B σ h w) (ht : TOK σ t a) {args : Array Operand} {ats : Array TypeId} {ax ay : AOpd} (hx : copds args.toList = some [ax, ay])
    (hs : (AOp.min2 ax ay).sem (AOpd.ev t) h K) : Res P B σ h w ⟨dst, .call { callee := .builtin .min, args, argTypes := ats }, ty, pos, after, guard⟩ a K := by
  obtain ⟨x, y, hxy, h1, h2⟩ := copds_two ht hx
  have e1 : args = #[x, y] := by apply Array.ext'; simpa using hxy
  subst e1
  have rx := copd_rel ht h1
  have ry := copd_rel ht h2
  simp only [AOp.sem] at hs
  split at hs
  · rename_i k p k' q hp hq
    rw [hp] at rx; rw [hq] at ry
    simp only [Rel] at rx ry
    refine Res.pure hk (c := .int k (if q < p then q else p)) ?_ (by exact rfl) hs
    simp [execOp, resolve, invoke, builtin, Builtin.min_, Builtin.min2, rx, ry]
  · cases hs

theorem snd_max (hk : HeapOK P B σ h w) (ht : TOK σ t a) {args : Array Operand} {ats : Array TypeId} {ax ay : AOpd} (hx : copds args.toList = some [ax, ay])
    (hs : (AOp.max2 ax ay).sem (AOpd.ev t) h K) : Res P B σ h w ⟨dst, .call { callee := .builtin .max, args, argTypes := ats }, ty, pos, after, guard⟩ a K := by
  obtain ⟨x, y, hxy, h1, h2⟩ := copds_two ht hx
  have e1 : args = #[x, y] := by apply Array.ext'; simpa using hxy
  subst e1
  have rx := copd_rel ht h1
  have ry := copd_rel ht h2
  simp only [AOp.sem] at hs
  split at hs
  · rename_i k p k' q hp hq
    rw [hp] at rx; rw [hq] at ry
    simp only [Rel] at rx ry
    refine Res.pure hk (c := .int k (if p < q then q else p)) ?_ (by exact rfl) hs
    simp [execOp, resolve, invoke, builtin, Builtin.max_, Builtin.max2, rx, ry]
  · cases hs

/-! ### Comparison of structs and arrays -/
theorem eqAt_append {x y : List AV} : ∀ {os ps : List (Nat × CK)} {r : Bool}, eqAt x y (os ++ ps) = some r → ∃ r1 r2, eqAt x y os = some r1 ∧ eqAt x y ps = some r2 ∧ r = (r1 && r2)
  | [], ps, r, h => ⟨true, r, rfl, h, by simp⟩
  | (o, c) :: os, ps, r, h => by
    simp only [List.cons_append, eqAt] at h
    split at h
    · rename_i p q u h1 h2 h3
      split at h
      · rename_i s hs
        simp only [Option.some.injEq] at h
        obtain ⟨r1, r2, g1, g2, rfl⟩ := eqAt_append h3
        exact ⟨s && r1, r2, by simp [eqAt, h1, h2, g1, hs], g2, by rw [← h, Bool.and_assoc]⟩
      · cases h
    · cases h

theorem eqAt_shift {x y : List AV} (d n : Nat) : ∀ {os : List (Nat × CK)}, os.all (fun o => decide (o.1 < n)) = true → eqAt x y (os.map (fun o => (d + o.1, o.2))) = eqAt ((x.drop d).take n) ((y.drop d).take n) os
  | [], _ => rfl
  | (o, c) :: os, h => by
    simp only [List.all_cons, Bool.and_eq_true, decide_eq_true_eq] at h
    simp only [List.map_cons, eqAt, List.getElem?_take, h.1, if_true, List.getElem?_drop, eqAt_shift d n h.2]

theorem eqCell_scal {c : CK} {x y : AV} {r : Bool} (h : eqCell c x y = some r) : scal x = true ∧ scal y = true := by
  unfold eqCell at h
  split at h <;> first | exact ⟨rfl, rfl⟩ | cases h

def Fit (P : Program) (e : TypeId) (u : Value) (x : List AV) : Prop :=
  (tyAgg P e = some true → ∃ p, u = .agg p) ∧ (tyAgg P e = some false → ∃ p, x = [p] ∧ u.cells = #[u])

theorem oneCell_cells {u : Value} (h : ∀ c, u ≠ .agg c) : u.cells = #[u] := by
  cases u <;> first | rfl | (rename_i c; exact (h c rfl).elim)

def CKOf (P : Program) (e : TypeId) : CK → Prop
  | .int => ∃ k, P.underlying e = some (.int k)
  | .bool => P.underlying e = some .bool
  | .str => P.underlying e = some .string

theorem eqOffs_cases {n : Nat} {e : TypeId} {os : List (Nat × CK)} (h : eqOffs P n e = some os) :
    (∃ c, os = [(0, c)] ∧ tySize P e = some 1 ∧ tyAgg P e = some false ∧ CKOf P e c) ∨ tyAgg P e = some true := by
  cases n with
  | zero => simp [eqOffs] at h
  | succ n =>
    simp only [eqOffs] at h
    split at h
    · rename_i k hu
      split at h
      · rename_i h1; simp only [Option.some.injEq] at h; exact .inl ⟨_, h.symm, h1, by simp [tyAgg, hu], ⟨k, hu⟩⟩
      · cases h
    · rename_i hu
      split at h
      · rename_i h1; simp only [Option.some.injEq] at h; exact .inl ⟨_, h.symm, h1, by simp [tyAgg, hu], hu⟩
      · cases h
    · rename_i hu
      split at h
      · rename_i h1; simp only [Option.some.injEq] at h; exact .inl ⟨_, h.symm, h1, by simp [tyAgg, hu], hu⟩
      · cases h
    · rename_i hu; exact .inr (by simp [tyAgg, hu])
    · rename_i hu; exact .inr (by simp [tyAgg, hu])
    · cases h

theorem part_fit {n : Nat} {p : Array Value} {x : List AV} (hx : RelL σ x p.toList) {e : TypeId} {os : List (Nat × CK)} {sz off : Nat} (h1 : eqOffs P n e = some os) (h2 : tySize P e = some sz) {y : List AV} {r : Bool}
    (g1 : eqAt ((x.drop off).take sz) y os = some r ∨ eqAt y ((x.drop off).take sz) os = some r) :
    ∃ u, (part e p off).run P w = .ok u w ∧ RelL σ ((x.drop off).take sz) u.cells.toList ∧ Fit P e u ((x.drop off).take sz) := by
  rcases eqOffs_cases h1 with ⟨c, rfl, hsz, hag, hck⟩ | hag
  · rw [hsz] at h2; simp only [Option.some.injEq] at h2; subst h2
    have hxa : ∃ xa, ((x.drop off).take 1)[0]? = some xa ∧ scal xa = true := by
      rcases g1 with g1 | g1 <;>
      · simp only [eqAt] at g1
        split at g1
        · rename_i a b u h3 h4 _
          split at g1
          · rename_i s hs
            have := eqCell_scal hs
            first | exact ⟨_, h3, this.1⟩ | exact ⟨_, h4, this.2⟩
          · cases g1
        · cases g1
    obtain ⟨xa, hxa, hsx⟩ := hxa
    have h0 : x[off]? = some xa := by
      rw [List.getElem?_take, if_pos (by omega), List.getElem?_drop, Nat.add_zero] at hxa; exact hxa
    have hlt := get_some_lt h0
    have htk : (x.drop off).take 1 = [xa] := by
      rw [List.drop_eq_getElem_cons hlt]
      have : x[off] = xa := by rw [List.getElem?_eq_getElem hlt] at h0; exact Option.some.inj h0
      simp [this]
    obtain ⟨u, hu1, hu2⟩ := hx.get h0
    have cu : u.cells = #[u] := oneCell_cells (fun c hc => by have := scal_one hsx hu2; rw [hc] at this; simp [Value.oneCell'] at this)
    refine ⟨u, ?_, ?_, (fun hh => by rw [hag] at hh; cases hh), fun _ => ⟨xa, htk, cu⟩⟩
    · have : p[off]? = some u := by simpa using hu1
      simp [part, agg_run hag, this]
    · rw [htk, cu]; exact ⟨u, [], rfl, hu2, rfl⟩
  · refine ⟨.agg (p.extract off (off + sz)), by simp [part, agg_run hag, size_run h2], ?_, fun _ => ⟨_, rfl⟩, fun hh => by rw [hag] at hh; cases hh⟩
    simpa [Value.cells, Array.toList_extract, List.extract_eq_take_drop] using RelL.take sz (RelL.drop off hx)

theorem fields_sound {n d : Nat} (ih : ∀ (e : TypeId) (offs : List (Nat × CK)), eqOffs P n e = some offs → ∀ (u v : Value) (x y : List AV) (r : Bool),
    Fit P e u x → Fit P e v y → RelL σ x u.cells.toList → RelL σ y v.cells.toList → eqAt x y offs = some r → (Op.equalIn d e u v).run P w = .ok r w)
    {p q : Array Value} {x y : List AV} (hx : RelL σ x p.toList) (hy : RelL σ y q.toList) :
    ∀ (fs : List Field) (offs : List (Nat × CK)) (r : Bool), fs.foldr (fun f r => match eqOffs P n f.type, tySize P f.type, r with
        | some os, some sz, some r => if f.name ≠ "_" ∧ os.all (fun o => decide (o.1 < sz)) = true then some (os.map (fun o => (f.offset + o.1, o.2)) ++ r) else none
        | _, _, _ => none) (some []) = some offs → eqAt x y offs = some r → (Op.eqFields d p q fs).run P w = .ok r w
  | [], offs, r, h, hr => by
    simp only [List.foldr_nil, Option.some.injEq] at h; subst h
    simp only [eqAt, Option.some.injEq] at hr; subst hr
    simp [Op.eqFields]
  | f :: fs, offs, r, h, hr => by
    simp only [List.foldr_cons] at h
    split at h
    · rename_i os sz rr h1 h2 h3
      split at h
      · rename_i hc
        simp only [Option.some.injEq] at h; subst h
        obtain ⟨r1, r2, g1, g2, rfl⟩ := eqAt_append hr
        rw [eqAt_shift f.offset sz hc.2] at g1
        have rest := fields_sound ih hx hy fs rr r2 h3 g2
        obtain ⟨u, e1, k1, f1⟩ := part_fit hx h1 h2 (w := w) (.inl g1)
        obtain ⟨v, e2, k2, f2⟩ := part_fit hy h1 h2 (w := w) (.inr g1)
        have e3 := ih _ _ h1 u v _ _ r1 f1 f2 k1 k2 g1
        simp only [Op.eqFields, ne_eq, hc.1, not_false_eq_true, if_true, Sem.run_bind, e1, e2, e3, Result.andThen_ok]
        cases r1
        · simp
        · simpa using rest
      · cases h
    · cases h

theorem items_sound {n d : Nat} (ih : ∀ (e : TypeId) (offs : List (Nat × CK)), eqOffs P n e = some offs → ∀ (u v : Value) (x y : List AV) (r : Bool),
    Fit P e u x → Fit P e v y → RelL σ x u.cells.toList → RelL σ y v.cells.toList → eqAt x y offs = some r → (Op.equalIn d e u v).run P w = .ok r w)
    {p q : Array Value} {x y : List AV} (hx : RelL σ x p.toList) (hy : RelL σ y q.toList) {e : TypeId} {os : List (Nat × CK)} {sz : Nat} (h1 : eqOffs P n e = some os) (h2 : tySize P e = some sz)
    (ha : os.all (fun o => decide (o.1 < sz)) = true) :
    ∀ (is : List Nat) (r : Bool), eqAt x y (is.flatMap fun i => os.map (fun o => (i * sz + o.1, o.2))) = some r → (Op.eqItems d e sz p q is).run P w = .ok r w
  | [], r, hr => by
    simp only [List.flatMap_nil, eqAt, Option.some.injEq] at hr; subst hr
    simp [Op.eqItems]
  | i :: is, r, hr => by
    simp only [List.flatMap_cons] at hr
    obtain ⟨r1, r2, g1, g2, rfl⟩ := eqAt_append hr
    rw [eqAt_shift (i * sz) sz ha] at g1
    have rest := items_sound ih hx hy h1 h2 ha is r2 g2
    obtain ⟨u, e1, k1, f1⟩ := part_fit hx h1 h2 (w := w) (.inl g1)
    obtain ⟨v, e2, k2, f2⟩ := part_fit hy h1 h2 (w := w) (.inr g1)
    have e3 := ih _ _ h1 u v _ _ r1 f1 f2 k1 k2 g1
    simp only [Op.eqItems, Sem.run_bind, e1, e2, e3, Result.andThen_ok]
    cases r1
    · simp
    · simpa using rest

theorem one_rel {u : Value} {p : AV} (h1 : u.cells = #[u]) (hx : RelL σ [p] u.cells.toList) : Rel σ p u := by
  rw [h1] at hx
  obtain ⟨u', _, e1, hx, _⟩ := hx
  simp only [List.cons.injEq] at e1
  obtain ⟨rfl, _⟩ := e1
  exact hx
theorem eqAt_one {p q : AV} {c : CK} {r : Bool} (h : eqAt [p] [q] [(0, c)] = some r) : eqCell c p q = some r := by
  simp only [eqAt, List.getElem?_cons_zero] at h
  split at h
  · rename_i s hs; simp only [Bool.and_true, Option.some.injEq] at h; subst h; exact hs
  · cases h

theorem cell_sound {d : Nat} {e : TypeId} {c : CK} (hk : CKOf P e c) {p q : AV} {u v : Value} {r : Bool} (hp : Rel σ p u) (hq : Rel σ q v) (h : eqCell c p q = some r) : (Op.equalIn (d + 1) e u v).run P w = .ok r w := by
  unfold eqCell at h
  split at h
  · simp only [Rel] at hp hq
    subst hp; subst hq
    split at h
    · rename_i hkk
      subst hkk
      simp only [Option.some.injEq] at h; subst h
      obtain ⟨k', hu⟩ := hk
      rw [run_equalIn_int w d e _ _ _ _ hu]
      congr 1
    · cases h
  · simp only [Rel] at hp hq
    subst hp; subst hq
    simp only [Option.some.injEq] at h; subst h
    rw [run_equalIn_bool w d e _ _ hk]
  · simp only [Rel] at hp hq
    subst hp; subst hq
    simp only [Option.some.injEq] at h; subst h
    rw [run_equalIn_string w d e _ _ hk]
  · cases h

theorem equal_sound : ∀ (n : Nat) (d : Nat), n ≤ d → ∀ (e : TypeId) (offs : List (Nat × CK)), eqOffs P n e = some offs → ∀ (u v : Value) (x y : List AV) (r : Bool),
    Fit P e u x → Fit P e v y → RelL σ x u.cells.toList → RelL σ y v.cells.toList → eqAt x y offs = some r → (Op.equalIn d e u v).run P w = .ok r w
  | 0, _, _, _, _, h, _, _, _, _, _, _, _, _, _, _ => by simp [eqOffs] at h
  | n + 1, d, hd, e, offs, h, u, v, x, y, r, fx, fy, hx, hy, hr => by
    obtain ⟨d, rfl⟩ : ∃ d', d = d' + 1 := ⟨d - 1, by omega⟩
    rcases eqOffs_cases h with ⟨c, rfl, _, hag, hck⟩ | hag
    · obtain ⟨p, rfl, h1⟩ := fx.2 hag
      obtain ⟨q, rfl, h2⟩ := fy.2 hag
      exact cell_sound hck (one_rel h1 hx) (one_rel h2 hy) (eqAt_one hr)
    · obtain ⟨p, rfl⟩ := fx.1 hag
      obtain ⟨q, rfl⟩ := fy.1 hag
      have ih := fun e offs h u v x y r a b c k => equal_sound n d (by omega) e offs h u v x y r a b c k
      simp only [eqOffs] at h
      split at h
      · rename_i hu; simp [tyAgg, hu] at hag
      · rename_i hu; simp [tyAgg, hu] at hag
      · rename_i hu; simp [tyAgg, hu] at hag
      · rename_i fields hu
        split at h
        · cases h
        · rename_i hst
          have hf : P.fieldsOf e = fields := by simp [Program.fieldsOf, hu]
          rw [run_equalIn_struct w d e p q (by rw [hf]; exact hu) (by simpa using hst), hf]
          exact fields_sound ih hx hy _ _ _ h hr
      · rename_i m e' hu
        split at h
        · rename_i os sz h1 h2
          split at h
          · rename_i ha
            simp only [Option.some.injEq] at h; subst h
            unfold tySize at h2
            simp only [Option.map_eq_some_iff] at h2
            obtain ⟨i, hi, hs⟩ := h2
            have hsz : P.cellsOf e' = sz := by simp [Program.cellsOf, hi, hs]
            rw [run_equalIn_array w d p q hu hi, hsz]
            exact items_sound ih hx hy h1 (by simp [tySize, hi, hs]) ha _ _ hr
          · cases h
        · cases h
      · cases h

theorem snd_eqCells (hk : HeapOK P B σ h w) (ht : TOK σ t a) {op : BinOp} {e yt : TypeId} {offs : List (Nat × CK)} {x y : Operand} {ax ay : AOpd} (hx : copd x = some ax) (hy : copd y = some ay)
    (hop : op = .eql ∨ op = .neq) (hag : tyAgg P e = some true) (ho : eqOffs P 20 e = some offs) (hg : P.eqGuardType P.depth e = false)
    (hs : (AOp.eqCells (op matches .neq) offs ax ay).sem (AOpd.ev t) h K) : Res P B σ h w ⟨dst, .binOp op e x y yt, ty, pos, after, guard⟩ a K := by
  have rx := copd_rel ht hx
  have ry := copd_rel ht hy
  simp only [AOp.sem] at hs
  split at hs
  · rename_i p q h1 h2
    rw [h1] at rx; rw [h2] at ry
    obtain ⟨u, hu1, hu2⟩ := rx
    obtain ⟨v, hv1, hv2⟩ := ry
    split at hs
    · rename_i r hr
      have key := equal_sound (P := P) (w := w) 20 10000 (by omega) e offs ho (.agg u) (.agg v) p q r ⟨fun _ => ⟨u, rfl⟩, fun hh => by rw [hag] at hh; cases hh⟩ ⟨fun _ => ⟨v, rfl⟩, fun hh => by rw [hag] at hh; cases hh⟩ hu2 hv2 hr
      rcases hop with rfl | rfl
      · refine Res.pure hk (c := .bool r) ?_ ?_ hs
        · simp only [execOp, hu1, hv1, Sem.run_bind, run_eqGuard_agg w _ e x y u v hg, Result.andThen_ok, run_eql_struct, key]; rfl
        · simp [Rel]
      · refine Res.pure hk (c := .bool (!r)) ?_ ?_ hs
        · simp only [execOp, hu1, hv1, Sem.run_bind, run_eqGuard_agg w _ e x y u v hg, Result.andThen_ok, run_neq_struct, key]; rfl
        · simp [Rel]
    · cases hs
  · cases hs
end
end Go.Abs
