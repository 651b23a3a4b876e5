/- Each abstract operation says what the model's operation does. Fourth part: slices of slices, append, min and max, comparison of structs. -/
import Derived.Test.YtbfihdpmphlckaaA5
import Derived.Deep.Upon
set_option linter.unusedSimpArgs false
set_option linter.unusedVariables false
namespace Go.Abs
open Go.RowKit
variable {P : Program}

theorem HeapOK.kill {B : Nat} {σ : Sg} {h : Heap} {w : World} (k : HeapOK P B σ h w) (i : Nat) : HeapOK P B σ (h.set i .dead) w := by
  have hnd : ∀ (x : Nat) (ox : AObj), (h.set i .dead)[x]? = some ox → ox.live = true → h[x]? = some ox := by
    intro x ox hx hv
    rw [List.getElem?_set] at hx
    by_cases hix : i = x
    · subst hix
      split at hx
      · split at hx
        · simp only [Option.some.injEq] at hx; subst hx; simp [AObj.live] at hv
        · cases hx
      · rename_i hne; exact (hne rfl).elim
    · simp only [hix, if_false] at hx; exact hx
  refine ⟨by simp [k.len], k.low, ?_, ?_⟩
  · intro j oj lj hj hlj
    by_cases hv : oj.live = true
    · exact k.obj j oj lj (hnd j oj hj hv) hlj
    · cases oj with
      | dead => trivial
      | other _ => simp [AObj.live] at hv
      | cells _ _ => simp [AObj.live] at hv
  · intro a b oa ob la lb ha hb hoa hlb hla hlb' hne
    have hav : oa.live = true := by cases oa <;> simp_all [AObj.isOwn, AObj.live]
    exact k.uniq a b oa ob la lb (hnd a oa ha hav) (hnd b ob hb hlb) hoa hlb hla hlb' hne

section
variable {P : Program} {B : Nat} {σ : Sg} {h : Heap} {w : World} {a : Act} {t : List (Nat × AV)} {K : AV → Heap → Prop}
variable {dst : Option Tmp} {ty : TypeId} {pos : String} {after : Array Edge} {guard : Option (Nat × Bool)}

theorem slice_src (hk : HeapOK P B σ h w) {sz n : Nat} {av : AV} {v : Value} {seg : List AV} (hs : sliceCells h sz av = some (n, seg)) (hr : Rel σ av v) :
    ∃ cs : List Value, RelL σ seg cs ∧ cs.length = n * sz ∧ (((∃ b, v = .slice b 0 0) ∧ n = 0) ∨
      ∃ ad c, v = .slice (some ad) n c ∧ n ≤ c ∧ ∀ (j : Nat) (u : Value), cs[j]? = some u → w.cell? (ad.add j) = some u) := by
  unfold sliceCells at hs
  split at hs
  · simp only [Option.some.injEq, Prod.mk.injEq] at hs
    obtain ⟨rfl, rfl⟩ := hs
    exact ⟨[], rfl, by simp, .inl ⟨⟨none, hr⟩, rfl⟩⟩
  · rename_i id off len sz' ex
    split at hs
    · rename_i hsz
      subst hsz
      cases hrd : rd h id off (len * sz') with
      | none => simp [hrd] at hs
      | some vs =>
        simp only [hrd, Option.map_some, Option.some.injEq, Prod.mk.injEq] at hs
        obtain ⟨rfl, rfl⟩ := hs
        rcases hr with ⟨h1, h2, h3⟩ | ⟨l, o, c, hl, hv, hlc, hex, hb⟩
        · subst h2
          have : vs = [] := by
            unfold rd at hrd
            split at hrd
            · split at hrd
              · simp at hrd; exact hrd
              · cases hrd
            · cases hrd
          subst this
          exact ⟨[], rfl, by simp, .inl ⟨h3, rfl⟩⟩
        · obtain ⟨cs, g1, g2, g3, g4⟩ := rd_cells hk hrd hl
          refine ⟨cs, g1, g2, .inr ⟨⟨l.blk, o, none⟩, c, hv, hlc, ?_⟩⟩
          rcases hb with hc | ⟨ho, _⟩
          · have : len = 0 := by omega
            subst this
            have : cs = [] := List.eq_nil_of_length_eq_zero (by simpa using g2)
            subst this
            intro j u hj; simp at hj
          · rw [ho]; exact g4
    · cases hs
  · cases hs

theorem src_of {e u : TypeId} {sz m : Nat} {v : Value} {cs : List Value} (hu : P.underlying u = some (.slice e)) (hl : cs.length = m * sz) (h1 : ∀ x ∈ cs, x.oneCell' = true)
    (h : ((∃ b, v = .slice b 0 0) ∧ m = 0) ∨ ∃ ad c, v = .slice (some ad) m c ∧ m ≤ c ∧ ∀ (j : Nat) (x : Value), cs[j]? = some x → w.cell? (ad.add j) = some x) : Src P sz u v m cs w := by
  rcases h with ⟨⟨b, rfl⟩, rfl⟩ | ⟨ad, c, rfl, _, hc⟩
  · have : cs = [] := List.eq_nil_of_length_eq_zero (by simpa using hl)
    subst this
    cases b with
    | none => exact Src.ofNil w hu 0
    | some ad => exact Src.ofSlice w hu ad 0 0 [] (by simp) (by simp) (by simp)
  · exact Src.ofSlice w hu ad m c cs hl hc h1

theorem append_new (hk : HeapOK P B σ h w) {s e : TypeId} {i : TypeInfo} {z : Value} {n m c : Nat} {base : Option Addr} {y : Value} {olds news : List Value} {old new : List AV}
    (hu : P.underlying s = some (.slice e)) (hi : P.info? e = some i) (hz : i.zero = some z) (hzs : z.cells.size = i.size)
    (hro : RelL σ old olds) (hrn : RelL σ new news) (hlo : olds.length = n * i.size) (hln : news.length = m * i.size)
    (hold : (Builtin.firstCells i.size n (.slice base n c)).run P w.drew = .ok olds.toArray w.drew) (hsrc : Src P i.size s y m news w)
    (hg : c < n + m) (hb : (n + m) * i.bytes ≤ 140737488355328) (hb0 : 0 < i.bytes) :
    ∃ v w' l, (Builtin.append_ #[s, s] ty #[.slice base n c, y]).run P w = .ok v w' ∧ HeapOK P B (σ ++ [some l]) (h ++ [.cells (old ++ new) true]) w' ∧
      Rel (σ ++ [some l]) (.slice h.length 0 (n + m) i.size false) v ∧ Grow σ h w (σ ++ [some l]) (h ++ [.cells (old ++ new) true]) w' := by
  have h63 : ((n + m : Nat) : Int) ≤ 9223372036854775807 := by
    have : n + m ≤ (n + m) * i.bytes := Nat.le_mul_of_pos_right _ hb0
    omega
  have hrun := run_append_grow_src (P := P) w s s ty e i z hu hi hz base n c olds hold y m news hsrc hg h63 (growslice_fits hg hb)
  have hk' : HeapOK P B σ h w.drew := hk.heap_eq rfl
  have hge := grownCap_ge w (n + m) c e
  have hal := hk'.alloc (tail := (Builtin.zeroCells z.cells (grownCap w (n + m) c e - (n + m))).toList) e (RelL.append hro hrn)
  have hal' : HeapOK P B (σ ++ [some ⟨w.heap.size, 0, (olds ++ news).length + (Builtin.zeroCells z.cells (grownCap w (n + m) c e - (n + m))).toList.length⟩]) (h ++ [.cells (old ++ new) true])
      (w.drew.alloc (.cells ((olds ++ news).toArray ++ Builtin.zeroCells z.cells (grownCap w (n + m) c e - (n + m))) e)) := by
    have e0 : (olds ++ news).toArray ++ Builtin.zeroCells z.cells (grownCap w (n + m) c e - (n + m)) = (olds ++ news ++ (Builtin.zeroCells z.cells (grownCap w (n + m) c e - (n + m))).toList).toArray := by
      apply Array.ext'; simp
    rw [e0]; exact hal
  refine ⟨_, _, ⟨w.heap.size, 0, (olds ++ news).length + (Builtin.zeroCells z.cells (grownCap w (n + m) c e - (n + m))).toList.length⟩, hrun, hal', ?_, ?_⟩
  · refine .inr ⟨_, 0, _, by rw [← hk.len]; simp; rfl, rfl, hge, (by intro hh; cases hh), .inr ⟨rfl, ?_⟩⟩
    simp only [Nat.zero_add, List.length_append, Array.length_toList, size_zeroCells, hzs, hlo, hln, ← Nat.add_mul]
    exact Nat.mul_le_mul_right _ (by omega)
  · exact (Grow.drew σ h w).trans (Grow.alloc hk.len _ _ _ rfl)

theorem snd_append (hk : HeapOK P B σ h w) (ht : TOK σ t a) {s e : TypeId} {i : TypeInfo} {zs : List AV} {x y : Operand} {ax ay : AOpd} (hx : copd x = some ax) (hy : copd y = some ay)
    (hu : P.underlying s = some (.slice e)) (hi : P.info? e = some i) (hz : tyZero P e = some zs) (hzl : zs.length = i.size) (hpos : 0 < i.size) (hby : 0 < i.bytes)
    {args : Array Operand} {ats : Array TypeId} (ha : args.toList = [x, y]) (hts : ats.toList = [s, s])
    (hs : (AOp.append ax ay i.size i.bytes).sem (AOpd.ev t) h K) : Res P B σ h w ⟨dst, .call { callee := .builtin .append, args, argTypes := ats }, ty, pos, after, guard⟩ a K := by
  have rx := copd_rel ht hx
  have ry := copd_rel ht hy
  have e1 : args = #[x, y] := by apply Array.ext'; simpa using ha
  have e2 : ats = #[s, s] := by apply Array.ext'; simpa using hts
  subst e1; subst e2
  obtain ⟨i', z, hi', hz0, hz1⟩ := info_zero hz
  rw [hi] at hi'; simp only [Option.some.injEq] at hi'; subst hi'
  have hzs : z.cells.size = i.size := by have := (scalarsAV_rel σ hz1).length; simp at this; omega
  have fin : ∀ (c : Value) (w' : World) (τ : Sg) (v : AV) (h' : Heap), K v h' → (Builtin.append_ #[s, s] ty #[a.eval x, a.eval y]).run P w = .ok c w' → HeapOK P B (σ ++ τ) h' w' → Rel (σ ++ τ) v c → Grow σ h w (σ ++ τ) h' w' →
      Res P B σ h w ⟨dst, .call { callee := .builtin .append, args := #[x, y], argTypes := #[s, s] }, ty, pos, after, guard⟩ a K := by
    intro c w' τ v h' g4 hr g1 g2 g3
    exact ⟨c, w', τ, v, h', .inl (by simp [execOp, resolve, invoke, builtin, hr]), g1, g2, g3, g4⟩
  simp only [AOp.sem] at hs
  split at hs
  · rename_i n old m new hox hoy
    obtain ⟨hsc, hb, hs⟩ := hs
    obtain ⟨olds, hro, hlo, hvx⟩ := slice_src hk hox rx
    obtain ⟨news, hrn, hln, hvy⟩ := slice_src hk hoy ry
    have hsrc : Src P i.size s (a.eval y) m news w := src_of hu hln (scal_all hsc hrn) hvy
    have hnew0 : m = 0 → new = [] ∧ news = [] := by
      intro h0; subst h0
      have h1 : news = [] := List.eq_nil_of_length_eq_zero (by simpa using hln)
      subst h1
      exact ⟨List.eq_nil_of_length_eq_zero (by simpa using hrn.length), rfl⟩
    have hold0 : ∀ b : Option Addr, (Builtin.firstCells i.size 0 (.slice b 0 0)).run P w.drew = .ok #[] w.drew := fun b => by
      cases b with
      | none => exact run_firstCells_none w.drew i.size 0 0 0
      | some ad => exact run_firstCells_some w.drew i.size 0 ad 0 0 [] (by simp) (by simp)
    split at hs
    · rename_i hnil
      rw [hnil] at rx hox
      simp only [Rel] at rx
      simp only [sliceCells, Option.some.injEq, Prod.mk.injEq] at hox
      obtain ⟨rfl, rfl⟩ := hox
      by_cases hm : m = 0
      · obtain ⟨rfl, rfl⟩ := hnew0 hm
        subst hm
        have hrun := run_append_nothing (P := P) w s s ty e i hu hi none 0 0 (Nat.le_refl _) (a.eval y) hsrc
        refine fin _ _ [none] _ _ hs (by rw [rx]; exact hrun) (hk.virtual true) ?_ (Grow.addNone hk.len)
        exact .inl ⟨by rw [← hk.len]; simp, rfl, _, rfl⟩
      · have hlo' : olds = [] := List.eq_nil_of_length_eq_zero (by simpa using hlo)
        subst hlo'
        obtain ⟨v, w', l, g1, g2, g3, g4⟩ := append_new (ty := ty) hk hu hi hz0 hzs hro hrn hlo hln (hold0 none) hsrc (by omega) hb hby
        rw [Nat.zero_add] at g3
        exact fin _ _ [some l] _ _ hs (by rw [rx]; exact g1) g2 g3 g4
    · rename_i id off ln sz' ex hsl
      rw [hsl] at rx hox
      have hsl' := hox
      simp only [sliceCells] at hox
      split at hox
      · rename_i hszz
        subst hszz
        cases hrd : rd h id off (ln * i.size) with
        | none => simp [hrd] at hox
        | some seg =>
          simp only [hrd, Option.map_some, Option.some.injEq, Prod.mk.injEq] at hox
          obtain ⟨rfl, rfl⟩ := hox
          -- how the old cells are read at a growing append
          have hfirst : ∀ (base : Option Addr) (c : Nat), a.eval x = .slice base ln c → (Builtin.firstCells i.size ln (.slice base ln c)).run P w.drew = .ok olds.toArray w.drew := by
            intro base c hv
            rcases hvx with ⟨⟨b, h1⟩, h2⟩ | ⟨ad, c', h1, _, h3⟩
            · rw [h1] at hv; cases hv
              have hlo' : olds = [] := List.eq_nil_of_length_eq_zero (by rw [hlo, h2]; simp)
              subst hlo'
              exact hold0 _
            · rw [h1] at hv; cases hv
              exact run_firstCells_some w.drew i.size ln ad ln c olds hlo (by simpa using h3)
          split at hs
          · rename_i vs hid
            obtain ⟨hoff, hs⟩ := hs
            subst hoff
            have hseg : seg = vs.take (ln * i.size) ∧ ln * i.size ≤ vs.length := by
              unfold rd at hrd
              rw [hid] at hrd
              simp only at hrd
              split at hrd
              · simp only [Option.some.injEq, List.drop_zero] at hrd; exact ⟨hrd.symm, by omega⟩
              · cases hrd
            obtain ⟨l?, hl?⟩ := hk.sg hid
            have hlt := get_some_lt hid
            -- nothing comes, and the value stays
            have nothing : ∀ (base : Option Addr) (c : Nat), a.eval x = .slice base ln c → ln ≤ c → m = 0 → Rel (σ ++ [l?]) (.slice h.length 0 ln i.size false) (.slice base ln c) →
                Res P B σ h w ⟨dst, .call { callee := .builtin .append, args := #[x, y], argTypes := #[s, s] }, ty, pos, after, guard⟩ a K := by
              intro base c hv hlc hm hrel
              obtain ⟨rfl, rfl⟩ := hnew0 hm
              subst hm
              have hrun := run_append_nothing (P := P) w s s ty e i hu hi base ln c hlc (a.eval y) hsrc
              have hk1 := (hk.shrink (ln * i.size) hid)
              have hk2 := hk1.move (i := id) (o := .cells (vs.take (ln * i.size)) true) (l := l?) (by simp [hlt]) hl?
              rw [List.set_set] at hk2
              rw [hseg.1, List.append_nil] at hs
              exact fin _ _ [l?] _ _ hs (by rw [hv]; exact hrun) hk2 hrel (by have := (Grow.shrink (σ := σ) (w := w) (vs' := vs.take (ln * i.size)) hid).trans (Grow.move (i := id) (o := .cells (vs.take (ln * i.size)) true) (l := l?) (by simp [hk.len]) (by simp [hlt]) hl?); rwa [List.set_set] at this)
            -- a new row
            have grow : ∀ (base : Option Addr) (c : Nat), a.eval x = .slice base ln c → c < ln + m →
                Res P B σ h w ⟨dst, .call { callee := .builtin .append, args := #[x, y], argTypes := #[s, s] }, ty, pos, after, guard⟩ a K := by
              intro base c hv hc
              obtain ⟨v, w', l, g1, g2, g3, g4⟩ := append_new (ty := ty) (hk.kill id) hu hi hz0 hzs hro hrn hlo hln (hfirst base c hv) hsrc hc hb hby
              rw [List.length_set] at g3
              exact fin _ _ [some l] _ _ hs (by rw [hv]; exact g1) g2 g3 ((Grow.kill σ h w id).trans g4)
            rcases rx with ⟨h1, h2, b0, h3⟩ | ⟨l, o, c, hl, hv, hlc, hex, hbd⟩
            · subst h2
              by_cases hm : m = 0
              · refine nothing b0 0 h3 (Nat.le_refl _) hm (.inl ⟨?_, rfl, _, rfl⟩)
                rw [← hk.len]; simp
              · exact grow b0 0 h3 (by omega)
            · rw [hl] at hl?; simp only [Option.some.injEq] at hl?; subst hl?
              obtain ⟨hB, hbase, arr, el, hblk, htot, hfit, hrow⟩ := hk.row hid hl
              have hat : (σ ++ [some l])[h.length]? = some (some l) := by rw [← hk.len]; simp
              by_cases hroom : ln + m ≤ c
              · by_cases hm : m = 0
                · refine nothing _ c hv hlc hm (.inr ⟨l, o, c, hat, rfl, hlc, (by intro hh; cases hh), ?_⟩)
                  rcases hbd with hbd | ⟨p, q⟩
                  · exact .inl hbd
                  · exact .inr ⟨by omega, by omega⟩
                · have hc : c ≠ 0 := by omega
                  obtain ⟨ho, hcap⟩ := hbd.resolve_left hc
                  have ho' : o = 0 := by omega
                  subst ho'
                  rcases hvy with ⟨_, h0⟩ | ⟨ady, cy, hvy1, _, hvy2⟩
                  · exact (hm h0).elim
                  · have hcs : (ln + m) * i.size ≤ c * i.size := Nat.mul_le_mul_right _ hroom
                    have hfit2 : ln * i.size + news.length ≤ arr.size := by rw [hln, ← Nat.add_mul]; omega
                    have heel : el = e ∨ True := .inr trivial
                    have hst := run_storeCells_at P l.blk (ln * i.size) el news 0 arr w hblk (by omega) (scal_all hsc hrn)
                    simp only [Nat.add_zero] at hst
                    have hff := run_firstCells_some (P := P) w i.size m ady m cy news hln hvy2
                    have hrun : (Builtin.append_ #[s, s] ty #[.slice (some ⟨l.blk, 0, none⟩) ln c, .slice (some ady) m cy]).run P w =
                        .ok (.slice (some ⟨l.blk, 0, none⟩) (ln + m) c) (w.setRow l.blk (arr.toList.take (ln * i.size) ++ news ++ arr.toList.drop (ln * i.size + news.length)).toArray) := by
                      simp [Builtin.append_, run_underlying hu, sizeOf, typeInfo, hi, Builtin.lenOf, hroom, hff, Addr.add_lit, hst]
                    have hsl : seg.length = ln * i.size := by rw [hseg.1]; simp; omega
                    have hnl : new.length = news.length := hrn.length
                    have hk1 := hk.rerow (vs' := seg ++ new) (arr' := (arr.toList.take (ln * i.size) ++ news ++ arr.toList.drop (ln * i.size + news.length)).toArray) hid hl
                      (by simp [htot] at *; omega) (by simp [hsl, hnl]; omega) (by
                        show RelL σ (seg ++ new) (List.take (seg ++ new).length (arr.toList.take (ln * i.size) ++ news ++ arr.toList.drop (ln * i.size + news.length)))
                        have l1 : (arr.toList.take (ln * i.size) ++ news).length = (seg ++ new).length := by simp [hsl, hnl]; omega
                        rw [← l1, List.take_left]
                        refine RelL.append ?_ hrn
                        have := RelL.take (ln * i.size) hrow
                        rw [List.take_take, Nat.min_eq_left hseg.2] at this
                        rw [hseg.1]; exact this)
                    have hk2 := hk1.move (i := id) (o := .cells (seg ++ new) true) (l := some l) (by simp [hlt]) hl
                    rw [List.set_set] at hk2
                    refine fin _ _ [some l] _ _ hs (by rw [hv, hvy1]; exact hrun) hk2 ?_ ?_
                    · exact .inr ⟨l, 0, c, hat, rfl, hroom, (by intro hh; cases hh), .inr ⟨by omega, by omega⟩⟩
                    · have := (Grow.write (vs' := seg ++ new) (w := w) hid hl (arr.toList.take (ln * i.size) ++ news ++ arr.toList.drop (ln * i.size + news.length)).toArray).trans (Grow.move (i := id) (o := .cells (seg ++ new) true) (l := some l) (by simp [hk.len]) (by simp [hlt]) hl)
                      rwa [List.set_set] at this
              · exact grow _ c hv (by omega)
          · rename_i vs hid
            obtain ⟨hexx, hs⟩ := hs
            subst hexx
            by_cases hm : m = 0
            · obtain ⟨rfl, rfl⟩ := hnew0 hm
              subst hm
              rcases rx with ⟨h1, h2, b0, h3⟩ | ⟨l, o, c, hl, hv, hlc, hex, hbd⟩
              · subst h2
                have hseg : seg = [] := by
                  have := hro.length
                  rw [hlo] at this
                  exact List.eq_nil_of_length_eq_zero (by simpa using this)
                subst hseg
                have hrun := run_append_nothing (P := P) w s s ty e i hu hi b0 0 0 (Nat.le_refl _) (a.eval y) hsrc
                refine fin _ _ [none] _ _ hs (by rw [h3]; exact hrun) (hk.virtual _) ?_ (Grow.addNone hk.len)
                exact .inl ⟨by rw [← hk.len]; simp, rfl, _, rfl⟩
              · have hrun := run_append_nothing (P := P) w s s ty e i hu hi (some ⟨l.blk, o, none⟩) ln c hlc (a.eval y) hsrc
                have hk1 := hk.alias (off := off) (vs' := seg) hid hl (by
                  intro j v hj
                  unfold rd at hrd
                  rw [hid] at hrd
                  simp only at hrd
                  split at hrd
                  · simp only [Option.some.injEq] at hrd; subst hrd
                    rw [List.getElem?_take] at hj
                    split at hj
                    · rw [List.getElem?_drop] at hj; exact hj
                    · cases hj
                  · cases hrd)
                rw [List.append_nil] at hs
                refine fin _ _ [some ⟨l.blk, l.base + off, l.tot⟩] _ _ hs (by rw [hv]; exact hrun) hk1 ?_ (Grow.addRo hk.len (by rfl) hid rfl hl rfl)
                refine .inr ⟨⟨l.blk, l.base + off, l.tot⟩, o, c, by rw [← hk.len]; simp, rfl, hlc, (by intro hh; cases hh), ?_⟩
                rcases hbd with hbd | ⟨p, q⟩
                · exact .inl hbd
                · exact .inr ⟨by simp; omega, by simp; omega⟩
            · have hd : decide (0 < m) = true := by simp; omega
              rw [hd] at hs
              have grow : ∀ (base : Option Addr) (c : Nat), a.eval x = .slice base ln c → c < ln + m →
                  Res P B σ h w ⟨dst, .call { callee := .builtin .append, args := #[x, y], argTypes := #[s, s] }, ty, pos, after, guard⟩ a K := by
                intro base c hv hc
                obtain ⟨v, w', l, g1, g2, g3, g4⟩ := append_new (ty := ty) hk hu hi hz0 hzs hro hrn hlo hln (hfirst base c hv) hsrc hc hb hby
                exact fin _ _ [some l] _ _ hs (by rw [hv]; exact g1) g2 g3 g4
              rcases rx with ⟨h1, h2, b0, h3⟩ | ⟨l, o, c, hl, hv, hlc, hex, hbd⟩
              · subst h2; exact grow b0 0 h3 (by omega)
              · exact grow _ c hv (by have := hex rfl; omega)
          · cases hs
      · cases hox
    · cases hs
  · cases hs
end
end Go.Abs
