/- Each abstract operation says what the model's operation does. Third part. -/
import Derived.Test.YtbfihdpmphlckaaA4
set_option linter.unusedSimpArgs false
set_option linter.unusedVariables false
namespace Go.Abs
open Go.RowKit
variable {P : Program}

section
variable {P : Program} {B : Nat} {σ : Sg} {h : Heap} {w : World} {a : Act} {t : List (Nat × AV)} {K : AV → Heap → Prop}
variable {dst : Option Tmp} {ty : TypeId} {pos : String} {after : Array Edge} {guard : Option (Nat × Bool)}

theorem snd_bin (hk : HeapOK P B σ h w) (ht : TOK σ t a) {op : BinOp} {e yt : TypeId} {x y : Operand} {ax ay : AOpd} (hx : copd x = some ax) (hy : copd y = some ay)
    (hs : (AOp.bin op ax ay).sem (AOpd.ev t) h K) : Res P B σ h w ⟨dst, .binOp op e x y yt, ty, pos, after, guard⟩ a K := by
  have rx := copd_rel ht hx
  have ry := copd_rel ht hy
  have plain : (∃ v, binA op (ax.ev t) (ay.ev t) = some v ∧ K v h) → Res P B σ h w ⟨dst, .binOp op e x y yt, ty, pos, after, guard⟩ a K := by
    rintro ⟨v, hv, hK⟩
    obtain ⟨c, hc, hr⟩ := bin_run (P := P) (w := w) (e := e) (x := x) (y := y) rx ry hv
    refine Res.pure hk (c := c) ?_ hr hK
    simp only [execOp]
    rw [Sem.run_bind, hc]; rfl
  have div : (op = .quo ∨ op = .rem) → divA op (ax.ev t) (ay.ev t) (fun v => K v h) → Res P B σ h w ⟨dst, .binOp op e x y yt, ty, pos, after, guard⟩ a K := by
    intro hop hd
    unfold divA at hd
    split at hd
    · rename_i k p k' q h1 h2
      obtain ⟨rfl, hq, hd⟩ := hd
      rw [h1] at rx; rw [h2] at ry
      simp only [Rel] at rx ry
      rcases hop with rfl | rfl
      · refine Res.pure hk (c := .int k (k.wrap (p.tdiv q))) ?_ (by exact rfl) hd
        simp [execOp, rx, ry, eqGuard, binOp, Op.intDiv, hq]
      · refine Res.pure hk (c := .int k (p.tmod q)) ?_ (by exact rfl) hd
        simp [execOp, rx, ry, eqGuard, binOp, Op.intDiv, hq]
    · cases hd
  cases op
  case quo => exact div (.inl rfl) hs
  case rem => exact div (.inr rfl) hs
  all_goals
    simp only [AOp.sem] at hs
    split at hs
    · rename_i v hv; exact plain ⟨v, hv, hs⟩
    · cases hs

theorem snd_neg (hk : HeapOK P B σ h w) (ht : TOK σ t a) {e : TypeId} {x : Operand} {ax : AOpd} (hx : copd x = some ax)
    (hs : (AOp.neg ax).sem (AOpd.ev t) h K) : Res P B σ h w ⟨dst, .unOp .neg e x, ty, pos, after, guard⟩ a K := by
  have rx := copd_rel ht hx
  simp only [AOp.sem] at hs
  split at hs
  · rename_i k n hp
    rw [hp] at rx; simp only [Rel] at rx
    exact Res.pure hk (c := .int k (k.wrap (0 - n))) (by simp [execOp, rx, Op.unary, Op.intArith]) (by exact rfl) hs
  · cases hs

theorem snd_not (hk : HeapOK P B σ h w) (ht : TOK σ t a) {e : TypeId} {x : Operand} {ax : AOpd} (hx : copd x = some ax)
    (hs : (AOp.not ax).sem (AOpd.ev t) h K) : Res P B σ h w ⟨dst, .unOp .not e x, ty, pos, after, guard⟩ a K := by
  have rx := copd_rel ht hx
  simp only [AOp.sem] at hs
  split at hs
  · rename_i b hp
    rw [hp] at rx; simp only [Rel] at rx
    exact Res.pure hk (c := .bool !b) (by simp [execOp, rx, Op.unary]) (by exact rfl) hs
  · cases hs

theorem snd_conv (hk : HeapOK P B σ h w) (ht : TOK σ t a) {s d : TypeId} {k0 k : IntKind} {x : Operand} {ax : AOpd} (hx : copd x = some ax)
    (h1 : P.underlying s = some (.int k0)) (h2 : P.underlying d = some (.int k))
    (hs : (AOp.conv k ax).sem (AOpd.ev t) h K) : Res P B σ h w ⟨dst, .convert s d x, ty, pos, after, guard⟩ a K := by
  have rx := copd_rel ht hx
  simp only [AOp.sem] at hs
  split at hs
  · rename_i k' n hp
    rw [hp] at rx; simp only [Rel] at rx
    exact Res.pure hk (c := .int k (k.wrap n)) (by simp [execOp, rx, convert, run_underlying h1, run_underlying h2, Conv.intToInt]) (by exact rfl) hs
  · cases hs

theorem snd_mkfn (hk : HeapOK P B σ h w) (ht : TOK σ t a) {f : Fn} {xs ys : Array Operand} {as bs : List AOpd} (hx : copds xs.toList = some as) (hy : copds ys.toList = some bs)
    (hs : (AOp.mkfn f as bs).sem (AOpd.ev t) h K) : Res P B σ h w ⟨dst, .makeFunc f xs ys, ty, pos, after, guard⟩ a K :=
  Res.pure hk (c := .func f (xs.map a.eval) (ys.map a.eval)) (by simp [execOp, Instr.makeFunc])
    (by exact ⟨_, _, rfl, by simpa using copds_rel ht hx, by simpa using copds_rel ht hy⟩) hs

theorem addr_add (b o n : Nat) : (⟨b, o, none⟩ : Addr).add n = ⟨b, o + n, none⟩ := by
  unfold Addr.add; split <;> simp_all

theorem snd_fieldAddr (hk : HeapOK P B σ h w) (ht : TOK σ t a) {s : TypeId} {f n : Nat} {fields : Array Field} {fl : Field} {x : Operand} {ax : AOpd} (hx : copd x = some ax)
    (hu : P.underlying s = some (.struct fields)) (hf : fields[f]? = some fl) (hn : tySize P fl.type = some n) (hn0 : 0 < n)
    (hs : (AOp.fieldAddr ax fl.offset).sem (AOpd.ev t) h K) : Res P B σ h w ⟨dst, .fieldAddr s x f, ty, pos, after, guard⟩ a K := by
  have rx := copd_rel ht hx
  simp only [AOp.sem] at hs
  split at hs
  · rename_i id off hp
    rw [hp] at rx
    obtain ⟨l, hl, hv⟩ := rx
    refine Res.pure hk (c := .pointer (some ⟨l.blk, l.base + (off + fl.offset), none⟩)) ?_ (by exact ⟨l, hl, rfl⟩) hs
    have : n ≠ 0 := by omega
    simp [execOp, Instr.fieldAt, run_underlying hu, hf, hv, Instr.sureAddr, fieldPlace, size_run hn, this, addr_add, Nat.add_assoc]
  · cases hs

theorem snd_field1 (hk : HeapOK P B σ h w) (ht : TOK σ t a) {s : TypeId} {f : Nat} {fields : Array Field} {fl : Field} {x : Operand} {ax : AOpd} (hx : copd x = some ax)
    (hu : P.underlying s = some (.struct fields)) (hf : fields[f]? = some fl) (ha : tyAgg P fl.type = some false)
    (hs : (AOp.field1 ax fl.offset).sem (AOpd.ev t) h K) : Res P B σ h w ⟨dst, .field s x f, ty, pos, after, guard⟩ a K := by
  have rx := copd_rel ht hx
  simp only [AOp.sem] at hs
  split at hs
  · rename_i cs hp
    rw [hp] at rx
    obtain ⟨arr, hv, hrel⟩ := rx
    split at hs
    · rename_i v hv'
      obtain ⟨c, hc, hr⟩ := hrel.get hv'
      refine Res.pure hk (c := c) ?_ hr hs
      have hc' : arr[fl.offset]? = some c := by simpa using hc
      simp [execOp, Instr.field, run_underlying hu, hf, hv, asAgg, part, agg_run ha, hc']
    · cases hs
  · cases hs

theorem snd_fieldN (hk : HeapOK P B σ h w) (ht : TOK σ t a) {s : TypeId} {f n : Nat} {fields : Array Field} {fl : Field} {x : Operand} {ax : AOpd} (hx : copd x = some ax)
    (hu : P.underlying s = some (.struct fields)) (hf : fields[f]? = some fl) (ha : tyAgg P fl.type = some true) (hn : tySize P fl.type = some n)
    (hs : (AOp.fieldN ax fl.offset n).sem (AOpd.ev t) h K) : Res P B σ h w ⟨dst, .field s x f, ty, pos, after, guard⟩ a K := by
  have rx := copd_rel ht hx
  simp only [AOp.sem] at hs
  split at hs
  · rename_i cs hp
    rw [hp] at rx
    obtain ⟨arr, hv, hrel⟩ := rx
    refine Res.pure hk (c := .agg (arr.extract fl.offset (fl.offset + n))) (v := .agg ((cs.drop fl.offset).take n)) ?_ ⟨_, rfl, ?_⟩ hs
    · simp [execOp, Instr.field, run_underlying hu, hf, hv, asAgg, part, agg_run ha, size_run hn]
    · have := RelL.take n (RelL.drop fl.offset hrel)
      simpa [Array.toList_extract, List.extract_eq_take_drop] using this
  · cases hs

theorem snd_idxSl (hk : HeapOK P B σ h w) (ht : TOK σ t a) {s e : TypeId} {sz : Nat} {x i : Operand} {ax ai : AOpd} (hx : copd x = some ax) (hi : copd i = some ai)
    (hu : P.underlying s = some (.slice e)) (hn : tySize P e = some sz)
    (hs : (AOp.idxSl ax ai sz).sem (AOpd.ev t) h K) : Res P B σ h w ⟨dst, .indexAddr s x i, ty, pos, after, guard⟩ a K := by
  have rx := copd_rel ht hx
  have ri := copd_rel ht hi
  simp only [AOp.sem] at hs
  split at hs
  · rename_i id off len sz' ex k n hp hq
    rw [hp] at rx; rw [hq] at ri
    simp only [Rel] at ri
    obtain ⟨rfl, h0, h1, hK⟩ := hs
    rcases rx with ⟨_, h2, _⟩ | ⟨l, o, c, hl, hv, hlc, hex, hb⟩
    · omega
    · have hc : c ≠ 0 := by omega
      obtain ⟨ho, _⟩ := hb.resolve_left hc
      refine Res.pure hk (c := .pointer (some ⟨l.blk, l.base + (off + n.toNat * sz'), none⟩)) ?_ (by exact ⟨l, hl, rfl⟩) hK
      simp [execOp, Instr.indexAt, run_underlying hu, hv, ri, asIntOf, h0, h1, size_run hn, addr_add, ho, Nat.add_assoc]
  · cases hs

theorem snd_idxArr (hk : HeapOK P B σ h w) (ht : TOK σ t a) {s e : TypeId} {ln sz : Nat} {x i : Operand} {ax ai : AOpd} (hx : copd x = some ax) (hi : copd i = some ai)
    (hu : P.underlying s = some (.array ln e)) (hn : tySize P e = some sz)
    (hs : (AOp.idxArr ax ai ln sz).sem (AOpd.ev t) h K) : Res P B σ h w ⟨dst, .indexAddr s x i, ty, pos, after, guard⟩ a K := by
  have rx := copd_rel ht hx
  have ri := copd_rel ht hi
  simp only [AOp.sem] at hs
  split at hs
  · rename_i id off k n hp hq
    rw [hp] at rx; rw [hq] at ri
    simp only [Rel] at ri
    obtain ⟨h0, h1, hK⟩ := hs
    obtain ⟨l, hl, hv⟩ := rx
    refine Res.pure hk (c := .pointer (some ⟨l.blk, l.base + (off + n.toNat * sz), none⟩)) ?_ (by exact ⟨l, hl, rfl⟩) hK
    simp [execOp, Instr.indexAt, run_underlying hu, hv, ri, asIntOf, Instr.sureAddr, h0, h1, size_run hn, addr_add, Nat.add_assoc]
  · cases hs

theorem snd_index1 (hk : HeapOK P B σ h w) (ht : TOK σ t a) {s e : TypeId} {ln : Nat} {x i : Operand} {ax ai : AOpd} (hx : copd x = some ax) (hi : copd i = some ai)
    (hu : P.underlying s = some (.array ln e)) (ha : tyAgg P e = some false) (hn : tySize P e = some 1)
    (hs : (AOp.index1 ax ai ln).sem (AOpd.ev t) h K) : Res P B σ h w ⟨dst, .index s x i, ty, pos, after, guard⟩ a K := by
  have rx := copd_rel ht hx
  have ri := copd_rel ht hi
  simp only [AOp.sem] at hs
  split at hs
  · rename_i cs k n hp hq
    rw [hp] at rx; rw [hq] at ri
    simp only [Rel] at ri
    obtain ⟨h0, h1, v, hv', hK⟩ := hs
    obtain ⟨arr, hv, hrel⟩ := rx
    obtain ⟨c, hc, hr⟩ := hrel.get hv'
    have hc' : arr[n.toNat]? = some c := by simpa using hc
    refine Res.pure hk (c := c) ?_ hr hK
    simp [execOp, Instr.index, run_underlying hu, hv, ri, asIntOf, h0, h1, size_run hn, part, agg_run ha, hc']
  · cases hs

theorem snd_indexN (hk : HeapOK P B σ h w) (ht : TOK σ t a) {s e : TypeId} {ln sz : Nat} {x i : Operand} {ax ai : AOpd} (hx : copd x = some ax) (hi : copd i = some ai)
    (hu : P.underlying s = some (.array ln e)) (ha : tyAgg P e = some true) (hn : tySize P e = some sz)
    (hs : (AOp.indexN ax ai ln sz).sem (AOpd.ev t) h K) : Res P B σ h w ⟨dst, .index s x i, ty, pos, after, guard⟩ a K := by
  have rx := copd_rel ht hx
  have ri := copd_rel ht hi
  simp only [AOp.sem] at hs
  split at hs
  · rename_i cs k n hp hq
    rw [hp] at rx; rw [hq] at ri
    simp only [Rel] at ri
    obtain ⟨h0, h1, hK⟩ := hs
    obtain ⟨arr, hv, hrel⟩ := rx
    refine Res.pure hk (c := .agg (arr.extract (n.toNat * sz) (n.toNat * sz + sz))) (v := .agg ((cs.drop (n.toNat * sz)).take sz)) ?_ ⟨_, rfl, ?_⟩ hK
    · simp [execOp, Instr.index, run_underlying hu, hv, ri, asIntOf, h0, h1, size_run hn, part, agg_run ha]
    · have := RelL.take sz (RelL.drop (n.toNat * sz) hrel)
      simpa [Array.toList_extract, List.extract_eq_take_drop] using this
  · cases hs

theorem snd_extract (hk : HeapOK P B σ h w) (ht : TOK σ t a) {i : Nat} {x : Operand} {ax : AOpd} (hx : copd x = some ax)
    (hs : (AOp.extract ax i).sem (AOpd.ev t) h K) : Res P B σ h w ⟨dst, .extract x i, ty, pos, after, guard⟩ a K := by
  have rx := copd_rel ht hx
  simp only [AOp.sem] at hs
  split at hs
  · rename_i vs hp
    rw [hp] at rx
    obtain ⟨arr, hv, hrel⟩ := rx
    split at hs
    · rename_i v hv'
      obtain ⟨c, hc, hr⟩ := hrel.get hv'
      have hc' : arr[i]? = some c := by simpa using hc
      exact Res.pure hk (c := c) (by simp [execOp, Instr.extract, hv, hc']) hr hs
    · cases hs
  · cases hs

theorem snd_len (hk : HeapOK P B σ h w) (ht : TOK σ t a) {s e : TypeId} {x : Operand} {ax : AOpd} (hx : copd x = some ax)
    (hu : P.underlying s = some (.slice e)) {args : Array Operand} {ats : Array TypeId} (ha : args.toList = [x]) (hts : ats.toList = [s])
    (hs : (AOp.len ax).sem (AOpd.ev t) h K) : Res P B σ h w ⟨dst, .call { callee := .builtin .len, args, argTypes := ats }, ty, pos, after, guard⟩ a K := by
  have rx := copd_rel ht hx
  have e1 : args = #[x] := by apply Array.ext'; simpa using ha
  have e2 : ats = #[s] := by apply Array.ext'; simpa using hts
  subst e1; subst e2
  simp only [AOp.sem] at hs
  split at hs
  · rename_i id off ln sz ex hp
    rw [hp] at rx
    refine Res.pure hk (c := .int .i64 ln) ?_ (by exact rfl) hs
    rcases rx with ⟨_, h2, _, hv⟩ | ⟨l, o, c, hl, hv, _⟩
    · subst h2; simp [execOp, resolve, invoke, builtin, Builtin.len_, run_underlying hu, hv, goInt]
    · simp [execOp, resolve, invoke, builtin, Builtin.len_, run_underlying hu, hv, goInt]
  · rename_i hp
    rw [hp] at rx; simp only [Rel] at rx
    exact Res.pure hk (c := .int .i64 0) (by simp [execOp, resolve, invoke, builtin, Builtin.len_, run_underlying hu, rx, goInt]) (by exact rfl) hs
  · cases hs

theorem snd_lenS (hk : HeapOK P B σ h w) (ht : TOK σ t a) {s : TypeId} {x : Operand} {ax : AOpd} (hx : copd x = some ax)
    (hu : P.underlying s = some .string) {args : Array Operand} {ats : Array TypeId} (ha : args.toList = [x]) (hts : ats.toList = [s])
    (hs : (AOp.lenS ax).sem (AOpd.ev t) h K) : Res P B σ h w ⟨dst, .call { callee := .builtin .len, args, argTypes := ats }, ty, pos, after, guard⟩ a K := by
  have rx := copd_rel ht hx
  have e1 : args = #[x] := by apply Array.ext'; simpa using ha
  have e2 : ats = #[s] := by apply Array.ext'; simpa using hts
  subst e1; subst e2
  simp only [AOp.sem] at hs
  split at hs
  · rename_i u hp
    rw [hp] at rx; simp only [Rel] at rx
    exact Res.pure hk (c := .int .i64 u.size) (by simp [execOp, resolve, invoke, builtin, Builtin.len_, run_underlying hu, rx, goInt]) (by exact rfl) hs
  · cases hs
end
end Go.Abs
