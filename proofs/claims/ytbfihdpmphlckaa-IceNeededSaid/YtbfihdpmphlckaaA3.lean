/- Each abstract operation says what the model's operation does. First half. -/
import Derived.Test.YtbfihdpmphlckaaA1
set_option linter.unusedSimpArgs false
set_option linter.unusedVariables false
namespace Go.Abs
open Go.RowKit
variable {P : Program}

theorem scalarAV_rel (σ : Sg) {v : Value} {a : AV} (h : scalarAV v = some a) : Rel σ a v := by
  unfold scalarAV at h
  split at h <;> first | (simp only [Option.some.injEq] at h; subst h; rfl) | cases h

theorem scalarsAV_rel (σ : Sg) : ∀ {vs : List Value} {as : List AV}, scalarsAV vs = some as → RelL σ as vs
  | [], as, h => by simp only [scalarsAV, Option.some.injEq] at h; subst h; rfl
  | v :: vs, as, h => by
    simp only [scalarsAV] at h
    split at h
    · rename_i a as' h1 h2
      simp only [Option.some.injEq] at h; subst h
      exact ⟨v, vs, rfl, scalarAV_rel σ h1, scalarsAV_rel σ h2⟩
    · cases h

theorem constAV_rel (σ : Sg) {v : Value} {a : AV} (h : constAV v = some a) : Rel σ a v := by
  unfold constAV at h
  split at h
  · rename_i cs
    cases hs : scalarsAV cs.toList with
    | none => simp [hs] at h
    | some as =>
      simp only [hs, Option.map_some, Option.some.injEq] at h; subst h
      exact ⟨cs, rfl, scalarsAV_rel σ hs⟩
  · exact scalarAV_rel σ h

theorem copd_rel {σ : Sg} {t : List (Nat × AV)} {a : Act} (ht : TOK σ t a) {x : Operand} {ax : AOpd} (h : copd x = some ax) : Rel σ (ax.ev t) (a.eval x) := by
  cases x with
  | tmp i => simp only [copd, Option.some.injEq] at h; subst h; exact ht i
  | const v =>
    cases hv : constAV v with
    | none => simp [copd, hv] at h
    | some av => simp only [copd, hv, Option.map_some, Option.some.injEq] at h; subst h; exact constAV_rel σ hv
  | global g => cases h
  | func f => simp only [copd, Option.some.injEq] at h; subst h; exact ⟨#[], #[], rfl, rfl, rfl⟩

theorem copds_rel {σ : Sg} {t : List (Nat × AV)} {a : Act} (ht : TOK σ t a) : ∀ {xs : List Operand} {as : List AOpd}, copds xs = some as → RelL σ (as.map (AOpd.ev t)) (xs.map a.eval)
  | [], as, h => by simp only [copds, Option.some.injEq] at h; subst h; rfl
  | x :: xs, as, h => by
    simp only [copds] at h
    split at h
    · rename_i a' as' h1 h2
      simp only [Option.some.injEq] at h; subst h
      exact ⟨_, _, rfl, copd_rel ht h1, copds_rel ht h2⟩
    · cases h

def Ran (P : Program) (o : Oper) (a : Act) (w : World) (c : Value) (w' : World) : Prop :=
  (execOp a.eval o).run P w = .ok (.value c) w' ∨ (c = undef ∧ (execOp a.eval o).run P w = .ok .skip w')

def Res (P : Program) (B : Nat) (σ : Sg) (h : Heap) (w : World) (o : Oper) (a : Act) (K : AV → Heap → Prop) : Prop :=
  ∃ c w' τ v h', Ran P o a w c w' ∧ HeapOK P B (σ ++ τ) h' w' ∧ Rel (σ ++ τ) v c ∧ Grow σ h w (σ ++ τ) h' w' ∧ K v h'

theorem Res.pure {P : Program} {B : Nat} {σ : Sg} {w : World} {o : Oper} {a : Act} {K : AV → Heap → Prop} {h : Heap} (hk : HeapOK P B σ h w) {c : Value} {v : AV}
    (hr : (execOp a.eval o).run P w = .ok (.value c) w) (hv : Rel σ v c) (h' : K v h) : Res P B σ h w o a K :=
  ⟨c, w, [], v, h, .inl hr, by simpa using hk, by simpa using hv, by simpa using Grow.refl σ h w, h'⟩

section
variable {P : Program} {B : Nat} {σ : Sg} {h : Heap} {w : World} {a : Act} {t : List (Nat × AV)} {K : AV → Heap → Prop}
variable {dst : Option Tmp} {ty : TypeId} {pos : String} {after : Array Edge} {guard : Option (Nat × Bool)}

theorem snd_move (hk : HeapOK P B σ h w) (ht : TOK σ t a) {x : Operand} {ax : AOpd} (hx : copd x = some ax) (hs : K (ax.ev t) h) :
    Res P B σ h w ⟨dst, .move x, ty, pos, after, guard⟩ a K :=
  Res.pure hk (by simp [execOp]) (copd_rel ht hx) hs

theorem snd_assign (hk : HeapOK P B σ h w) (ht : TOK σ t a) {x : Operand} {ax : AOpd} (hx : copd x = some ax) (hs : K (ax.ev t) h) :
    Res P B σ h w ⟨dst, .assign x, ty, pos, after, guard⟩ a K :=
  Res.pure hk (by simp [execOp]) (copd_rel ht hx) hs

theorem snd_pick (hk : HeapOK P B σ h w) (ht : TOK σ t a) {c x y : Operand} {ac ax ay : AOpd} (hc : copd c = some ac) (hx : copd x = some ax) (hy : copd y = some ay)
    (hs : (AOp.pick ac ax ay).sem (AOpd.ev t) h K) : Res P B σ h w ⟨dst, .pick c x y, ty, pos, after, guard⟩ a K := by
  have rc := copd_rel ht hc
  have rx := copd_rel ht hx
  have ry := copd_rel ht hy
  simp only [AOp.sem] at hs
  split at hs
  · rename_i b hb
    rw [hb] at rc
    simp only [Rel] at rc
    refine Res.pure hk (c := if b = true then a.eval x else a.eval y) (by simp [execOp, rc, asBool]) ?_ hs
    split <;> assumption
  · cases hs

theorem info_zero {e : TypeId} {zs : List AV} (hz : tyZero P e = some zs) : ∃ i z, P.info? e = some i ∧ i.zero = some z ∧ scalarsAV z.cells.toList = some zs := by
  unfold tyZero at hz
  split at hz
  · rename_i i hi
    split at hz
    · rename_i z hz'
      exact ⟨i, z, hi, hz', hz⟩
    · cases hz
  · cases hz

theorem snd_alloc (hk : HeapOK P B σ h w) {e : TypeId} {zs : List AV} (hz : tyZero P e = some zs) (hs : K (.ptr h.length 0) (h ++ [.cells zs true])) :
    Res P B σ h w ⟨dst, .alloc e, ty, pos, after, guard⟩ a K := by
  obtain ⟨i, z, hi, hz0, hz1⟩ := info_zero hz
  have hal := hk.alloc (tail := []) e (scalarsAV_rel σ hz1)
  refine ⟨.pointer (some ⟨w.heap.size, 0, none⟩), w.alloc (.cells z.cells e), _, _, _, .inl ?_, by simpa using hal, ?_, Grow.alloc hk.len _ _ _ rfl, hs⟩
  · simp [execOp, Instr.alloc, zeroValue, typeInfo, hi, hz0, newVar, newRow]
  · exact ⟨_, (by rw [← hk.len]; simp; rfl), rfl⟩

theorem cellsOf_rel {v : AV} {c : Value} {cs : List AV} (hc : cellsOf v = some cs) (hr : Rel σ v c) : RelL σ cs c.cells.toList := by
  cases v <;> simp only [cellsOf, Option.some.injEq, reduceCtorEq] at hc <;> subst hc
  case agg => obtain ⟨a, rfl, h⟩ := hr; exact h
  case slice =>
    have hr' := hr
    rcases hr with ⟨_, _, _, rfl⟩ | ⟨_, _, _, _, rfl, _⟩ <;> exact ⟨_, _, rfl, hr', rfl⟩
  case ptr => have hr' := hr; obtain ⟨_, _, rfl⟩ := hr; exact ⟨_, _, rfl, hr', rfl⟩
  case map => have hr' := hr; obtain ⟨_, _, rfl⟩ := hr; exact ⟨_, _, rfl, hr', rfl⟩
  case yield => have hr' := hr; obtain ⟨_, _, rfl⟩ := hr; exact ⟨_, _, rfl, hr', rfl⟩
  case fn => have hr' := hr; obtain ⟨_, _, rfl, _⟩ := hr; exact ⟨_, _, rfl, hr', rfl⟩
  case iface => have hr' := hr; obtain ⟨_, rfl, _⟩ := hr; exact ⟨_, _, rfl, hr', rfl⟩
  case tuple => have hr' := hr; obtain ⟨_, rfl, _⟩ := hr; exact ⟨_, _, rfl, hr', rfl⟩
  all_goals (have hr' := hr; simp only [Rel] at hr; subst hr; exact ⟨_, _, rfl, hr', rfl⟩)

theorem snd_box (hk : HeapOK P B σ h w) (ht : TOK σ t a) {e : TypeId} {x : Operand} {ax : AOpd} (hx : copd x = some ax)
    (hs : (AOp.box ax).sem (AOpd.ev t) h K) : Res P B σ h w ⟨dst, .box e x, ty, pos, after, guard⟩ a K := by
  have rx := copd_rel ht hx
  simp only [AOp.sem] at hs
  split at hs
  · rename_i cs hcs
    have hal := hk.alloc (tail := []) e (cellsOf_rel hcs rx)
    refine ⟨.pointer (some ⟨w.heap.size, 0, none⟩), w.alloc (.cells (a.eval x).cells e), _, _, _, .inl ?_, by simpa using hal, ?_, Grow.alloc hk.len _ _ _ rfl, hs⟩
    · simp [execOp, Instr.box, newVar, newRow]
    · exact ⟨_, (by rw [← hk.len]; simp; rfl), rfl⟩
  · cases hs

/-! ### Reading cells -/
theorem rd_cells (hk : HeapOK P B σ h w) {id off n : Nat} {vs : List AV} (hr : rd h id off n = some vs) {l : Loc} (hl : σ[id]? = some (some l)) :
    ∃ cs : List Value, RelL σ vs cs ∧ cs.length = n ∧ vs.length = n ∧ ∀ (j : Nat) (c : Value), cs[j]? = some c → w.cell? ((⟨l.blk, l.base + off, none⟩ : Addr).add j) = some c := by
  unfold rd at hr
  split at hr
  · rename_i ws own hid
    split at hr
    · rename_i hle
      simp only [Option.some.injEq] at hr
      obtain ⟨h0, h1, _⟩ := hk.obj id _ _ hid hl
      have hlen : vs.length = n := by rw [← hr]; simp; omega
      have key : ∀ j, j < n → ∃ c, w.cell? ⟨l.blk, l.base + (off + j), none⟩ = some c := by
        intro j hj
        obtain ⟨c, hc, _⟩ := h1 (off + j) (ws[off + j]'(by omega)) (by simp)
        exact ⟨c, hc⟩
      refine ⟨(List.range n).map (fun j => (w.cell? ⟨l.blk, l.base + (off + j), none⟩).getD undef), ?_, by simp, hlen, ?_⟩
      · refine RelL.of_get (by simp [hlen]) (fun j av cv ha hc => ?_)
        have hj : j < n := by have := get_some_lt ha; omega
        rw [List.getElem?_map, List.getElem?_range hj] at hc
        simp only [Option.map_some, Option.some.injEq] at hc
        rw [← hr, List.getElem?_take, if_pos hj, List.getElem?_drop] at ha
        obtain ⟨c, h2, h3⟩ := h1 _ _ ha
        rw [h2] at hc; simp only [Option.getD_some] at hc; subst hc; exact h3
      · intro j c hc
        have hj : j < n := by have := get_some_lt hc; simpa using this
        rw [List.getElem?_map, List.getElem?_range hj] at hc
        simp only [Option.map_some, Option.some.injEq] at hc
        obtain ⟨c', hc'⟩ := key j hj
        rw [hc'] at hc; simp only [Option.getD_some] at hc; subst hc
        have : (⟨l.blk, l.base + off, none⟩ : Addr).add j = ⟨l.blk, l.base + (off + j), none⟩ := by
          unfold Addr.add; split <;> simp_all [Nat.add_assoc]
        rw [this]; exact hc'
    · cases hr
  · cases hr

theorem agg_run {e : TypeId} {b : Bool} (h : tyAgg P e = some b) : (isAgg e).run P w = .ok b w := by
  unfold tyAgg at h
  split at h <;> rename_i hd
  · simp only [Option.some.injEq] at h; subst h; simp [isAgg, run_underlying hd]
  · simp only [Option.some.injEq] at h; subst h; simp [isAgg, run_underlying hd]
  · rename_i d h1 h2
    simp only [Option.some.injEq] at h; subst h
    simp only [isAgg, Sem.run_bind, run_underlying hd, Result.andThen_ok]
    cases d <;> first | rfl | (rename_i fs; exact (h1 fs rfl).elim) | (rename_i n e'; exact (h2 n e' rfl).elim)
  · cases h

theorem size_run {e : TypeId} {n : Nat} (h : tySize P e = some n) : (sizeOf e).run P w = .ok n w := by
  unfold tySize at h
  cases hi : P.info? e with
  | none => simp [hi] at h
  | some i => simp [hi] at h; subst h; simp [sizeOf, typeInfo, hi]

theorem snd_load1 (hk : HeapOK P B σ h w) (ht : TOK σ t a) {e : TypeId} {x : Operand} {ax : AOpd} (hx : copd x = some ax) (ha : tyAgg P e = some false)
    (hs : (AOp.load1 ax).sem (AOpd.ev t) h K) : Res P B σ h w ⟨dst, .load e x, ty, pos, after, guard⟩ a K := by
  have rx := copd_rel ht hx
  simp only [AOp.sem] at hs
  split at hs
  · rename_i id off hp
    rw [hp] at rx
    obtain ⟨l, hl, hv⟩ := rx
    split at hs
    · rename_i v hrd
      obtain ⟨cs, hrel, hlen, _, hcell⟩ := rd_cells hk hrd hl
      simp only [RelL] at hrel
      obtain ⟨c, cs', rfl, hr, rfl⟩ := hrel
      have h0 := hcell 0 c rfl
      simp only [Addr.add, if_true] at h0
      refine Res.pure hk (c := c) ?_ hr hs
      simp [execOp, Instr.loadAt, hv, Instr.sureAddr, loadVar, agg_run ha, h0]
    · cases hs
  · cases hs

theorem snd_loadN (hk : HeapOK P B σ h w) (ht : TOK σ t a) {e : TypeId} {n : Nat} {x : Operand} {ax : AOpd} (hx : copd x = some ax) (ha : tyAgg P e = some true) (hn : tySize P e = some n)
    (hs : (AOp.loadN ax n).sem (AOpd.ev t) h K) : Res P B σ h w ⟨dst, .load e x, ty, pos, after, guard⟩ a K := by
  have rx := copd_rel ht hx
  simp only [AOp.sem] at hs
  split at hs
  · rename_i id off hp
    rw [hp] at rx
    obtain ⟨l, hl, hv⟩ := rx
    split at hs
    · rename_i vs hrd
      obtain ⟨cs, hrel, hlen, _, hcell⟩ := rd_cells hk hrd hl
      refine Res.pure hk (c := .agg cs.toArray) (v := .agg vs) ?_ ⟨_, rfl, hrel⟩ hs
      have := run_loadCells_list (P := P) w _ cs hcell
      rw [hlen] at this
      simp [execOp, Instr.loadAt, hv, Instr.sureAddr, loadVar, agg_run ha, size_run hn, this]
    · cases hs
  · cases hs

/-! ### Writing cells -/
theorem scal_one {v : AV} {c : Value} (hs : scal v = true) (hr : Rel σ v c) : c.oneCell' = true := by
  cases v <;> simp only [scal, Bool.false_eq_true] at hs
  case slice => rcases hr with ⟨_, _, _, rfl⟩ | ⟨_, _, _, _, rfl, _⟩ <;> rfl
  case ptr => obtain ⟨_, _, rfl⟩ := hr; rfl
  case map => obtain ⟨_, _, rfl⟩ := hr; rfl
  case yield => obtain ⟨_, _, rfl⟩ := hr; rfl
  case fn => obtain ⟨_, _, rfl, _⟩ := hr; rfl
  case iface => obtain ⟨_, rfl, _⟩ := hr; rfl
  all_goals (simp only [Rel] at hr; subst hr; rfl)

theorem scal_all {vs : List AV} {cs : List Value} (hs : vs.all scal = true) (hr : RelL σ vs cs) : ∀ c ∈ cs, c.oneCell' = true := by
  induction vs generalizing cs with
  | nil => simp only [RelL] at hr; subst hr; simp
  | cons v vs ih =>
    simp only [RelL] at hr
    obtain ⟨c, cs', rfl, h1, h2⟩ := hr
    simp only [List.all_cons, Bool.and_eq_true] at hs
    intro x hx
    rcases List.mem_cons.1 hx with rfl | hx
    · exact scal_one hs.1 h1
    · exact ih hs.2 h2 x hx

theorem splice_len {cs vs : List AV} {off : Nat} (h : off + vs.length ≤ cs.length) : (splice cs off vs).length = cs.length := by
  simp [splice]; omega

theorem snd_store (hk : HeapOK P B σ h w) (ht : TOK σ t a) {e : TypeId} {n : Nat} {x y : Operand} {ax ay : AOpd} (hx : copd x = some ax) (hy : copd y = some ay) (hn : tySize P e = some n) (hn0 : 0 < n)
    (hs : (AOp.store ax n ay).sem (AOpd.ev t) h K) : Res P B σ h w ⟨dst, .store e x y, ty, pos, after, guard⟩ a K := by
  have rx := copd_rel ht hx
  have ry := copd_rel ht hy
  simp only [AOp.sem] at hs
  split at hs
  · rename_i id off hp
    rw [hp] at rx
    obtain ⟨l, hl, hv⟩ := rx
    split at hs
    · rename_i vs hvs
      obtain ⟨hlen, hsc, hs⟩ := hs
      have hrel := cellsOf_rel hvs ry
      split at hs
      · rename_i h' hwr
        unfold wr at hwr
        split at hwr
        · rename_i cs hid
          split at hwr
          · rename_i hle
            simp only [Option.some.injEq] at hwr; subst hwr
            obtain ⟨hB, hb, arr, el, hblk, htot, hfit, hrow⟩ := hk.row hid hl
            have hcl : (a.eval y).cells.toList.length = vs.length := hrel.length.symm
            have hst := run_storeCells_at P l.blk (l.base + off) el (a.eval y).cells.toList 0 arr w hblk (by rw [hcl]; omega) (scal_all hsc hrel)
            simp only [Nat.add_zero] at hst
            have hk' := hk.rerow (vs' := splice cs off vs) (arr' := (arr.toList.take (l.base + off) ++ (a.eval y).cells.toList ++ arr.toList.drop (l.base + off + (a.eval y).cells.toList.length)).toArray)
              hid hl (by simp [htot] at *; omega) (by rw [splice_len hle]; exact hfit) ?_
            · refine ⟨undef, _, [], .tuple [], _, .inr ⟨rfl, ?_⟩, by simpa using hk', ⟨#[], rfl, rfl⟩, ?_, hs⟩
              · have hsz : (a.eval y).cells.size = n := by rw [← hlen, ← hcl]; simp
                simp [execOp, Instr.storeAt, hv, Instr.sureAddr, storeVar, size_run hn, hsz, hst]
              · simpa using Grow.write hid hl _
            · rw [splice_len hle, hb, Nat.zero_add, hcl]
              have e1 : (arr.toList.take off ++ (a.eval y).cells.toList ++ arr.toList.drop (off + vs.length)).take cs.length =
                  (arr.toList.take cs.length).take off ++ (a.eval y).cells.toList ++ (arr.toList.take cs.length).drop (off + vs.length) := by
                have l1 : (arr.toList.take off).length = off := by simp; omega
                rw [List.take_append, List.take_append, List.take_take, List.take_take, List.drop_take, l1, List.take_of_length_le (l := (a.eval y).cells.toList) (by omega)]
                simp only [List.length_append, l1, hcl]
                rw [Nat.min_comm]
              show RelL σ (splice cs off vs) (List.take cs.length (arr.toList.take off ++ (a.eval y).cells.toList ++ arr.toList.drop (off + vs.length)))
              rw [e1]
              exact RelL.append (RelL.append (RelL.take off hrow) hrel) (RelL.drop _ hrow)
          · cases hwr
        · cases hwr
      · cases hs
    · cases hs
  · cases hs
end
end Go.Abs
