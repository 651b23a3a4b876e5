/- Each abstract operation says what the model's operation does. Sixth part: comparison with nil, of bools; shifts; strings; new slices. -/
import Derived.Test.YtbfihdpmphlckaaA7
import Derived.Laws.Small
import Derived.Laws.Cover3
import Derived.Laws.Pointers
import Derived.Laws.MakeOwn
set_option linter.unusedSimpArgs false
set_option linter.unusedVariables false
namespace Go.Abs
open Go.RowKit

section
variable {P : Program} {B : Nat} {σ : Sg} {h : Heap} {w : World} {a : Act} {t : List (Nat × AV)} {K : AV → Heap → Prop}
variable {dst : Option Tmp} {ty : TypeId} {pos : String} {after : Array Edge} {guard : Option (Nat × Bool)}

def EK.fits (P : Program) (e : TypeId) : EK → Prop
  | .bool => P.underlying e = some .bool
  | .slice => ∃ t, P.underlying e = some (.slice t)
  | .ptr => ∃ t, P.underlying e = some (.pointer t)
  | .func => ∃ p r v, P.underlying e = some (.func p r v)
  | .map => ∃ k v, P.underlying e = some (.map k v)

theorem eqv_run {k : EK} {e : TypeId} {x y : AV} {u v : Value} {r : Bool} (hf : k.fits P e) (hu : Rel σ x u) (hv : Rel σ y v) (hr : eqvA k x y = some r) :
    (∀ d, (Op.equalIn (d + 1) e u v).run P w = .ok r w) ∧ (∀ p q, ¬ (u = .int p q)) ∧ (∀ p, u ≠ .string p) ∧ (∀ p q, u ≠ .float p q) ∧ (∀ p q s, u ≠ .complex p q s) ∧ u ≠ .nilIface ∧ (∀ p, u ≠ .agg p) := by
  unfold eqvA at hr
  split at hr
  case h_1 =>
    simp only [Option.some.injEq] at hr; subst hr
    simp only [Rel] at hu hv; subst hu; subst hv
    exact ⟨fun d => by simp [Op.equalIn, run_underlying (show P.underlying e = some .bool from hf)], by simp, by simp, by simp, by simp, by simp, by simp⟩
  case h_14 => cases hr
  all_goals
    (try (split at hr; · cases hr))
    simp only [Option.some.injEq] at hr; subst hr
    obtain ⟨_, hf⟩ := hf
    try obtain ⟨_, hf⟩ := hf
    try obtain ⟨_, hf⟩ := hf
    simp only [Rel] at hu hv
  case h_2 => subst hu; subst hv; exact ⟨fun d => by simp [Op.equalIn, run_underlying hf], by simp, by simp, by simp, by simp, by simp, by simp⟩
  case h_3 =>
    subst hv
    rcases hu with ⟨_, h0, _⟩ | ⟨l, o, c, _, rfl, _⟩
    · exact absurd h0 (by assumption)
    · exact ⟨fun d => by simp [Op.equalIn, run_underlying hf], by simp, by simp, by simp, by simp, by simp, by simp⟩
  case h_4 =>
    subst hu
    rcases hv with ⟨_, h0, _⟩ | ⟨l, o, c, _, rfl, _⟩
    · exact absurd h0 (by assumption)
    · exact ⟨fun d => by simp [Op.equalIn, run_underlying hf], by simp, by simp, by simp, by simp, by simp, by simp⟩
  case h_5 => subst hu; subst hv; exact ⟨fun d => by simp [Op.equalIn, run_underlying hf], by simp, by simp, by simp, by simp, by simp, by simp⟩
  case h_6 => obtain ⟨_, _, rfl⟩ := hu; subst hv; exact ⟨fun d => by simp [Op.equalIn, run_underlying hf], by simp, by simp, by simp, by simp, by simp, by simp⟩
  case h_7 => obtain ⟨_, _, rfl⟩ := hv; subst hu; exact ⟨fun d => by simp [Op.equalIn, run_underlying hf], by simp, by simp, by simp, by simp, by simp, by simp⟩
  case h_8 => subst hu; subst hv; exact ⟨fun d => by simp [Op.equalIn, run_underlying hf], by simp, by simp, by simp, by simp, by simp, by simp⟩
  case h_9 => obtain ⟨_, _, rfl, _⟩ := hu; subst hv; exact ⟨fun d => by simp [Op.equalIn, run_underlying hf], by simp, by simp, by simp, by simp, by simp, by simp⟩
  case h_10 => obtain ⟨_, _, rfl, _⟩ := hv; subst hu; exact ⟨fun d => by simp [Op.equalIn, run_underlying hf], by simp, by simp, by simp, by simp, by simp, by simp⟩
  case h_11 => subst hu; subst hv; exact ⟨fun d => by simp [Op.equalIn, run_underlying hf], by simp, by simp, by simp, by simp, by simp, by simp⟩
  case h_12 => obtain ⟨_, _, rfl⟩ := hu; subst hv; exact ⟨fun d => by simp [Op.equalIn, run_underlying hf], by simp, by simp, by simp, by simp, by simp, by simp⟩
  case h_13 => obtain ⟨_, _, rfl⟩ := hv; subst hu; exact ⟨fun d => by simp [Op.equalIn, run_underlying hf], by simp, by simp, by simp, by simp, by simp, by simp⟩

theorem snd_shift (hk : HeapOK P B σ h w) (ht : TOK σ t a) {op : BinOp} (hop : op = .shl ∨ op = .shr) {e yt : TypeId} {x y : Operand} {ax ay : AOpd} (hx : copd x = some ax) (hy : copd y = some ay)
    (hs : (AOp.shift (op matches .shl) ax ay).sem (AOpd.ev t) h K) : Res P B σ h w ⟨dst, .binOp op e x y yt, ty, pos, after, guard⟩ a K := by
  have rx := copd_rel ht hx
  have ry := copd_rel ht hy
  simp only [AOp.sem] at hs
  split at hs
  · rename_i v hv
    unfold shiftA at hv
    split at hv
    · rename_i k p k' q h1 h2
      split at hv
      · cases hv
      · rename_i hq
        simp only [Option.some.injEq] at hv; subst hv
        rw [h1] at rx; rw [h2] at ry
        simp only [Rel] at rx ry
        rcases hop with rfl | rfl
        · exact Res.pure hk (c := .int k (k.wrap (p * 2 ^ (min q.toNat k.bits)))) (by simp [execOp, rx, ry, eqGuard, binOp, Op.shift, hq]) (by exact rfl) hs
        · exact Res.pure hk (c := .int k (p.fdiv (2 ^ (min q.toNat k.bits)))) (by simp [execOp, rx, ry, eqGuard, binOp, Op.shift, hq]) (by exact rfl) hs
    · cases hv
  · cases hs

theorem snd_sIdx (hk : HeapOK P B σ h w) (ht : TOK σ t a) {s : TypeId} {x i : Operand} {ax ai : AOpd} (hx : copd x = some ax) (hi : copd i = some ai) (hu : P.underlying s = some .string)
    (hs : (AOp.sIdx ax ai).sem (AOpd.ev t) h K) : Res P B σ h w ⟨dst, .index s x i, ty, pos, after, guard⟩ a K := by
  have rx := copd_rel ht hx
  have ri := copd_rel ht hi
  simp only [AOp.sem] at hs
  split at hs
  · rename_i st k n h1 h2
    rw [h1] at rx; rw [h2] at ri
    simp only [Rel] at rx ri
    obtain ⟨h0, hs⟩ := hs
    split at hs
    · rename_i b hb
      exact Res.pure hk (c := .int .u8 b.toNat) (by simp [execOp, rx, ri, Instr.index, asIntOf, run_underlying hu, h0, hb]) (by exact rfl) hs
    · cases hs
  · cases hs

theorem sbound_run {x : Value} {k : IntKind} {n : Int} {y : Nat} {code : BoundsCode} (hx : x = .int k n) (h0 : 0 ≤ n) (h1 : n ≤ y) : (Instr.sliceBound x y code).run P w = .ok n.toNat w := by
  subst hx
  simp [Instr.sliceBound, asIntOf, h0, h1]

theorem snd_sSlice (hk : HeapOK P B σ h w) (ht : TOK σ t a) {s : TypeId} {x : Operand} {lo hi : Option Operand} {ax : AOpd} {alo ahi : Option AOpd} (hx : copd x = some ax)
    (hlo : (lo = none ∧ alo = none) ∨ ∃ y ay, lo = some y ∧ alo = some ay ∧ copd y = some ay) (hhi : (hi = none ∧ ahi = none) ∨ ∃ y ay, hi = some y ∧ ahi = some ay ∧ copd y = some ay)
    (hu : P.underlying s = some .string) (hs : (AOp.sSlice ax alo ahi).sem (AOpd.ev t) h K) : Res P B σ h w ⟨dst, .slice s x lo hi none, ty, pos, after, guard⟩ a K := by
  have rx := copd_rel ht hx
  simp only [AOp.sem] at hs
  split at hs
  · rename_i st k l h1 h2
    rw [h1] at rx
    simp only [Rel] at rx
    split at hs
    · rename_i k2 m h3
      obtain ⟨q0, q1, q2, hK⟩ := hs
      have bl := bound_rel ht hlo h2
      have bh := bound_rel ht hhi h3
      refine Res.pure hk (c := .string (st.extract l.toNat m.toNat)) (v := .str (st.extract l.toNat m.toNat)) ?_ rfl hK
      rcases bl with ⟨rfl, hl⟩ | ⟨yl, rfl, hl⟩ <;> rcases bh with ⟨rfl, hm⟩ | ⟨yh, rfl, hm⟩
      · simp only [AV.int.injEq] at hl hm
        obtain ⟨rfl, rfl⟩ := hl; obtain ⟨rfl, rfl⟩ := hm
        simp [execOp, rx, Instr.sliceAt, Instr.slice, run_underlying hu, Instr.sliceBounds]
      · simp only [AV.int.injEq] at hl
        obtain ⟨rfl, rfl⟩ := hl
        simp [execOp, rx, Instr.sliceAt, Instr.slice, run_underlying hu, Instr.sliceBounds, sbound_run hm (by omega) q2]
      · simp only [AV.int.injEq] at hm
        obtain ⟨rfl, rfl⟩ := hm
        have := sbound_run (P := P) (w := w) (code := .sliceB) hl q0 (show l ≤ ((st.size : Nat) : Int) by omega)
        simp [execOp, rx, Instr.sliceAt, Instr.slice, run_underlying hu, Instr.sliceBounds, this]
      · have := sbound_run (P := P) (w := w) (y := m.toNat) (code := .sliceB) hl q0 (by omega)
        simp [execOp, rx, Instr.sliceAt, Instr.slice, run_underlying hu, Instr.sliceBounds, sbound_run hm (by omega) q2, this]
    · cases hs
  · cases hs

theorem snd_capS (hk : HeapOK P B σ h w) (ht : TOK σ t a) {s e : TypeId} {x : Operand} {ax : AOpd} (hx : copd x = some ax)
    (hu : P.underlying s = some (.slice e)) {args : Array Operand} {ats : Array TypeId} (ha : args.toList = [x]) (hts : ats.toList = [s])
    (hs : (AOp.capS ax).sem (AOpd.ev t) h K) : Res P B σ h w ⟨dst, .call { callee := .builtin .cap, args, argTypes := ats }, ty, pos, after, guard⟩ a K := by
  have rx := copd_rel ht hx
  obtain rfl : args = #[x] := by rw [← Array.toArray_toList (xs := args), ha]
  obtain rfl : ats = #[s] := by rw [← Array.toArray_toList (xs := ats), hts]
  simp only [AOp.sem] at hs
  split at hs
  · rename_i hp
    rw [hp] at rx; simp only [Rel] at rx
    exact Res.pure hk (c := .int .i64 0) (by simp [execOp, resolve, invoke, builtin, Builtin.cap_, rx, run_underlying hu, goInt]) (by exact rfl) hs
  · rename_i id off ln sz hp
    rw [hp] at rx
    rcases rx with ⟨_, rfl, aa, hv⟩ | ⟨l, o, c, _, hv, _, hc, _⟩
    · exact Res.pure hk (c := .int .i64 0) (by simp [execOp, resolve, invoke, builtin, Builtin.cap_, hv, run_underlying hu, goInt]) (by exact rfl) hs
    · have := hc rfl
      subst this
      exact Res.pure hk (c := .int .i64 c) (by simp [execOp, resolve, invoke, builtin, Builtin.cap_, hv, run_underlying hu, goInt]) (by exact rfl) hs
  · cases hs

theorem snd_eqv (hk : HeapOK P B σ h w) (ht : TOK σ t a) {op : BinOp} (hop : op = .eql ∨ op = .neq) {k : EK} {e yt : TypeId} (hf : k.fits P e) {x y : Operand} {ax ay : AOpd} (hx : copd x = some ax) (hy : copd y = some ay)
    (hs : (AOp.eqv k (op matches .neq) ax ay).sem (AOpd.ev t) h K) : Res P B σ h w ⟨dst, .binOp op e x y yt, ty, pos, after, guard⟩ a K := by
  have rx := copd_rel ht hx
  have ry := copd_rel ht hy
  simp only [AOp.sem] at hs
  split at hs
  · rename_i r hr
    obtain ⟨hrun, n1, n2, n3, n4, n5, n6⟩ := eqv_run (P := P) (w := w) hf rx ry hr
    have heq : (Op.equal e (a.eval x) (a.eval y)).run P w = .ok r w := hrun 9999
    have hg : ∀ (x' y' : Operand), (eqGuard op e x' y' (a.eval x) (a.eval y)).run P w = .ok () w := by
      intro x' y'
      unfold eqGuard
      rcases hop with rfl | rfl <;> (simp only [Bool.not_true, Bool.false_eq_true, if_false]; split <;> first | (rename_i h1 _; exact absurd h1 n5) | (rename_i h1 _; exact absurd h1 (n6 _)) | simp)
    rcases hop with rfl | rfl
    · have hb : binOp .eql e (a.eval x) (a.eval y) = (do pure (.bool (← Op.equal e (a.eval x) (a.eval y)))) := by
        revert n1 n2 n3 n4
        generalize a.eval x = u
        generalize a.eval y = v
        intro n1 n2 n3 n4
        cases u <;> first | rfl | exact absurd rfl (n1 _ _) | exact absurd rfl (n2 _) | exact absurd rfl (n3 _ _) | exact absurd rfl (n4 _ _ _)
      exact Res.pure hk (c := .bool r) (by simp [execOp, hg, hb, heq, Sem.run_bind]) (by exact rfl) hs
    · have hb : binOp .neq e (a.eval x) (a.eval y) = (do pure (.bool (!(← Op.equal e (a.eval x) (a.eval y))))) := by
        revert n1 n2 n3 n4
        generalize a.eval x = u
        generalize a.eval y = v
        intro n1 n2 n3 n4
        cases u <;> first | rfl | exact absurd rfl (n1 _ _) | exact absurd rfl (n2 _) | exact absurd rfl (n3 _ _) | exact absurd rfl (n4 _ _ _)
      exact Res.pure hk (c := .bool (!r)) (by simp [execOp, hg, hb, heq, Sem.run_bind]) (by exact rfl) hs
  · cases hs

theorem madeCells_eq {z : Array Value} {n : Nat} (hz : 0 < z.size) : (madeCells z (n * z.size)).toList = (List.replicate n z.toList).flatten := by
  apply List.ext_getElem?
  intro j
  rw [Array.getElem?_toList]
  by_cases hj : j < n * z.size
  · have h1 : (madeCells z (n * z.size))[j]? = some (z[j % z.size]!) := by
      simp [madeCells, hj]
    have hm : j % z.size < z.size := Nat.mod_lt _ hz
    have hd : j / z.size < n := (Nat.div_lt_iff_lt_mul hz).2 hj
    have key : ∀ (n : Nat) (q r : Nat), q < n → r < z.size → (List.replicate n z.toList).flatten[q * z.size + r]? = z.toList[r]? := by
      intro n
      induction n with
      | zero => intro q r hq; omega
      | succ n ih =>
        intro q r hq hr
        rw [List.replicate_succ, List.flatten_cons]
        cases q with
        | zero => rw [List.getElem?_append_left (by simpa using hr)]; simp
        | succ q =>
          rw [List.getElem?_append_right (by simp [Nat.add_mul]; omega)]
          have : (q + 1) * z.size + r - z.toList.length = q * z.size + r := by simp [Nat.add_mul]; omega
          rw [this]; exact ih q r (by omega) hr
    have h2 := key n (j / z.size) (j % z.size) hd hm
    rw [show j / z.size * z.size + j % z.size = j by rw [Nat.mul_comm]; exact Nat.div_add_mod j z.size] at h2
    rw [h1, h2]
    simp [getElem!_pos, hm]
  · rw [Array.getElem?_eq_none (by simp [madeCells]; omega), List.getElem?_eq_none (by simp [List.length_flatten]; omega)]

theorem relL_rep {zs : List AV} {cs : List Value} (hr : RelL σ zs cs) : ∀ (n : Nat), RelL σ (List.replicate n zs).flatten (List.replicate n cs).flatten
  | 0 => rfl
  | n + 1 => by
    rw [List.replicate_succ, List.replicate_succ, List.flatten_cons, List.flatten_cons]
    exact RelL.append hr (relL_rep hr n)

theorem snd_makeSl (hk : HeapOK P B σ h w) (ht : TOK σ t a) {s e : TypeId} {i : TypeInfo} {zs : List AV} {x y : Operand} {ax ay : AOpd} (hx : copd x = some ax) (hy : copd y = some ay)
    (hu : P.underlying s = some (.slice e)) (hi : P.info? e = some i) (hz : tyZero P e = some zs) (hzl : zs.length = i.size) (hpos : 0 < i.size)
    (hs : (AOp.makeSl zs i.size i.bytes ax ay).sem (AOpd.ev t) h K) : Res P B σ h w ⟨dst, .makeSlice s x y, ty, pos, after, guard⟩ a K := by
  have rx := copd_rel ht hx
  have ry := copd_rel ht hy
  simp only [AOp.sem] at hs
  split at hs
  · rename_i k1 n k2 c h1 h2
    rw [h1] at rx; rw [h2] at ry
    simp only [Rel] at rx ry
    obtain ⟨q0, q1, q2, q3, hK⟩ := hs
    obtain ⟨i', z, hi', hz0, hz1⟩ := info_zero hz
    have ei : i' = i := by rw [hi] at hi'; cases hi'; rfl
    subst ei
    have hrel : RelL σ zs z.cells.toList := scalarsAV_rel σ hz1
    have hzs : z.cells.size = i'.size := by have := hrel.length; simp at this; omega
    have hrun := run_make (P := P) w s e i' z hu hi hz0 k1 k2 n c q0 q1 q2 q3
    have hcells : (madeCells z.cells (c.toNat * i'.size)).toList = (List.replicate c.toNat z.cells.toList).flatten := by rw [← hzs]; exact madeCells_eq (by omega)
    have hal := hk.alloc (tail := []) e (relL_rep hrel c.toNat)
    rw [List.append_nil, ← hcells] at hal
    refine ⟨.slice (some ⟨w.heap.size, 0, none⟩) n.toNat c.toNat, _, [_], .slice h.length 0 n.toNat i'.size (decide (n = c)), _, .inl ?_, hal, ?_, Grow.alloc hk.len _ _ _ rfl, hK⟩
    · simp [execOp, rx, ry, hrun]
    · refine .inr ⟨_, 0, c.toNat, (by rw [← hk.len]; simp; rfl), rfl, by omega, fun hd => ?_, ?_⟩
      · simp at hd; omega
      · right
        refine ⟨rfl, ?_⟩
        have hl := congrArg List.length hcells
        simp [List.length_flatten, hzs] at hl
        simp [hl]
  · cases hs
theorem run_appZ (w : World) (t tx ty e : TypeId) (i : TypeInfo) (z : Value) {ik : IntKind} (ht : P.underlying t = some (.slice e)) (hx : P.underlying tx = some (.int ik)) (hi : P.info? e = some i) (hz : i.zero = some z) (k : IntKind) (m : Nat) (h0 : 0 < m) (h63 : (m : Int) ≤ 9223372036854775807) (hb : m * i.bytes ≤ 140737488355328) (hsz : 0 < i.size) :
    (Builtin.append_ #[t, tx] ty #[.slice none 0 0, .int k m]).run P w = .ok (.slice (some ⟨w.heap.size, 0, none⟩) m (grownCap w m 0 e)) (w.drew.alloc (.cells (Builtin.zeroCells z.cells m ++ Builtin.zeroCells z.cells (grownCap w m 0 e - m)) e)) := by
  have hn : ¬ (m ≤ 0) := by omega
  have hw : IntKind.i64.wrap (m : Int) = m := by
    unfold IntKind.wrap
    simp [IntKind.bits, IntKind.signed]
    split <;> omega
  have h48 : ¬ ((281474976710656 : Int) < (m : Int) * (i.bytes : Int)) := by
    have : ((m * i.bytes : Nat) : Int) = (m : Int) * (i.bytes : Int) := by simp
    omega
  have hc : Builtin.nextslicecap m 0 = m := by simp [Builtin.nextslicecap, h0]
  have h48' : ¬ (281474976710656 < m * i.bytes) := by omega
  have hms : ¬ (m * i.size = 0) := by
    have := Nat.mul_pos h0 hsz
    omega
  have hneg : ¬ ((m : Int) < 0) := by omega
  have hm0 : ¬ m = 0 := by omega
  have hs0 : ¬ i.size = 0 := by omega
  have hmi : ¬ ((m : Int) ≤ 0) := by omega
  have hmx : max (m : Int) 0 = m := by omega
  have h63' : ¬ (9223372036854775807 < (m : Int)) := by omega
  simp [Builtin.append_, run_underlying ht, run_underlying hx, sizeOf, typeInfo, zeroValue, hi, hz, hn, hw, h48, h48', hc, hms, hneg, h63', hm0, hs0, hmi, hmx, asInt, asIntOf, Builtin.firstCells, Question.forced, newRow, grownCap]
theorem snd_appZ (hk : HeapOK P B σ h w) (ht : TOK σ t a) {s u e : TypeId} {i : TypeInfo} {ik : IntKind} {zs : List AV} {x y : Operand} {ax ay : AOpd} (hx : copd x = some ax) (hy : copd y = some ay)
    (hu : P.underlying s = some (.slice e)) (hui : P.underlying u = some (.int ik)) (hi : P.info? e = some i) (hz : tyZero P e = some zs) (hzl : zs.length = i.size) (hpos : 0 < i.size) (hby : 0 < i.bytes)
    {args : Array Operand} {ats : Array TypeId} (ha : args.toList = [x, y]) (hts : ats.toList = [s, u])
    (hs : (AOp.appZ zs i.size i.bytes ax ay).sem (AOpd.ev t) h K) : Res P B σ h w ⟨dst, .call { callee := .builtin .append, args, argTypes := ats }, ty, pos, after, guard⟩ a K := by
  have rx := copd_rel ht hx
  have ry := copd_rel ht hy
  have e1 : args = #[x, y] := by apply Array.ext'; simpa using ha
  have e2 : ats = #[s, u] := by apply Array.ext'; simpa using hts
  subst e1; subst e2
  simp only [AOp.sem] at hs
  split at hs
  · rename_i k m h1 h2
    rw [h1] at rx; rw [h2] at ry
    simp only [Rel] at rx ry
    obtain ⟨q0, q1, hK⟩ := hs
    obtain ⟨n, rfl⟩ : ∃ n : Nat, m = n := ⟨m.toNat, by omega⟩
    simp only [Int.toNat_natCast] at q1 hK
    obtain ⟨i', z, hi', hz0, hz1⟩ := info_zero hz
    have ei : i' = i := by rw [hi] at hi'; cases hi'; rfl
    subst ei
    have hrel : RelL σ zs z.cells.toList := scalarsAV_rel σ hz1
    have hzs : z.cells.size = i'.size := by have := hrel.length; simp at this; omega
    have h63 : (n : Int) ≤ 9223372036854775807 := by
      have : n ≤ n * i'.bytes := Nat.le_mul_of_pos_right _ hby
      omega
    have hrun := run_appZ (P := P) (ty := ty) w s u e i' z hu hui hi hz0 k n (by omega) h63 q1 hpos
    have hcells : (Builtin.zeroCells z.cells n).toList = (List.replicate n z.cells.toList).flatten := madeCells_eq (by omega)
    have hk' : HeapOK P B σ h w.drew := hk.heap_eq rfl
    have hge := grownCap_ge w n 0 e
    have hal := hk'.alloc (tail := (Builtin.zeroCells z.cells (grownCap w n 0 e - n)).toList) e (relL_rep hrel n)
    have e0 : ((List.replicate n z.cells.toList).flatten ++ (Builtin.zeroCells z.cells (grownCap w n 0 e - n)).toList).toArray = Builtin.zeroCells z.cells n ++ Builtin.zeroCells z.cells (grownCap w n 0 e - n) := by
      apply Array.ext'; simp [hcells]
    rw [e0] at hal
    have hl := congrArg List.length hcells
    refine ⟨.slice (some ⟨w.heap.size, 0, none⟩) n (grownCap w n 0 e), _, [_], .slice h.length 0 n i'.size false, _, .inl ?_, hal, ?_, (Grow.drew σ h w).trans (Grow.alloc hk.len _ _ _ rfl), hK⟩
    · simp [execOp, resolve, invoke, builtin, rx, ry, hrun]
    · refine .inr ⟨_, 0, _, by rw [← hk.len]; simp; rfl, rfl, hge, (by intro hh; cases hh), .inr ⟨rfl, ?_⟩⟩
      simp [hzs] at hl
      simp only [Nat.zero_add, size_zeroCells, hzs, ← Nat.add_mul]
      exact Nat.mul_le_mul_right _ (by omega)
  · cases hs
end
end Go.Abs
