/- How a region runs in an order that it draws. -/
import Derived.Test.YtbfihdpmphlckaaA15
set_option linter.unusedSimpArgs false
set_option linter.unusedVariables false
namespace Go.Abs
open Go.RowKit
variable {P : Program}

theorem HeapOK.pad {B : Nat} {σ : Sg} {h : Heap} {w : World} (k : HeapOK P B σ h w) (ζ : Sg) : HeapOK P B (σ ++ ζ) (h ++ List.replicate ζ.length .dead) w := by
  have old : ∀ (i : Nat) (o : AObj), (h ++ List.replicate ζ.length AObj.dead)[i]? = some o → o.live = true → i < h.length ∧ h[i]? = some o := by
    intro i o hi hl
    rcases Nat.lt_or_ge i h.length with h' | h'
    · rw [List.getElem?_append_left h'] at hi; exact ⟨h', hi⟩
    · rw [List.getElem?_append_right h', List.getElem?_replicate] at hi
      split at hi
      · simp only [Option.some.injEq] at hi; subst hi; simp [AObj.live] at hl
      · cases hi
  refine ⟨by simp [k.len], k.low, ?_, ?_⟩
  · intro i o l hi hl
    by_cases hv : o.live = true
    · obtain ⟨h1, h2⟩ := old i o hi hv
      rw [List.getElem?_append_left (by rw [k.len]; exact h1)] at hl
      exact (k.obj i o l h2 hl).mono (Ext.app _ _)
    · cases o with
      | dead => trivial
      | other _ => simp [AObj.live] at hv
      | cells _ _ => simp [AObj.live] at hv
  · intro i j oi oj li lj hi hj ho hv hli hlj hne
    have hvi : oi.live = true := by cases oi <;> simp_all [AObj.isOwn, AObj.live]
    obtain ⟨h1, h2⟩ := old i oi hi hvi
    obtain ⟨h3, h4⟩ := old j oj hj hv
    rw [List.getElem?_append_left (by rw [k.len]; exact h1)] at hli
    rw [List.getElem?_append_left (by rw [k.len]; exact h3)] at hlj
    exact k.uniq i j oi oj li lj h2 h4 ho hv hli hlj hne

theorem Grow.pad {σ : Sg} {h : Heap} {w : World} (hl : σ.length = h.length) (ζ : Sg) : Grow σ h w (σ ++ ζ) (h ++ List.replicate ζ.length .dead) w := by
  refine Grow.same fun j o l h1 h2 h3 => ?_
  rcases Nat.lt_or_ge j h.length with h' | h'
  · rw [List.getElem?_append_left h'] at h1
    rw [List.getElem?_append_left (by omega)] at h3
    exact ⟨j, o, l, h1, h2, fun h => h, h3, rfl⟩
  · rw [List.getElem?_append_right h', List.getElem?_replicate] at h1
    split at h1
    · simp only [Option.some.injEq] at h1; subst h1; simp [AObj.live] at h2
    · cases h1

def MRel (σ : Sg) : Option (List AV) → Obj → Nat → Prop
  | some cs, o, tot => ∃ vals e, o = .cells vals e (0, 0) ∧ vals.size = tot ∧ RelL σ cs vals.toList
  | none, o, _ => o = .map #[] 0
theorem MRel.mono {σ σ' : Sg} (h : Ext σ σ') : ∀ {cs : Option (List AV)} {o : Obj} {tot : Nat}, MRel σ cs o tot → MRel σ' cs o tot
  | some _, _, _, ⟨vals, e, h1, h2, h3⟩ => ⟨vals, e, h1, h2, RelL.mono h _ _ h3⟩
  | none, _, _, h => h

theorem HeapOK.adopt {B : Nat} {σ : Sg} {h : Heap} {w : World} (k : HeapOK P B σ h w) {l : Loc} {cs : Option (List AV)} {ob : Obj}
    (hb : w.heap[l.blk]? = some ob) (h0 : l.base = 0) (hr : MRel (σ ++ [some l]) cs ob l.tot) (hB : B ≤ l.blk)
    (hu : ∀ (j : Nat) (o : AObj) (m : Loc), h[j]? = some o → o.live = true → σ[j]? = some (some m) → m.blk ≠ l.blk) : HeapOK P B (σ ++ [some l]) (h ++ [MObj cs]) w := by
  refine ⟨by simp [k.len], k.low, ?_, ?_⟩
  · intro i o m hi hm
    rcases append_cases hi with ⟨h1, h2⟩ | ⟨h1, h2⟩
    · rw [List.getElem?_append_left (by rw [k.len]; exact h1)] at hm
      exact (k.obj i o m h2 hm).mono (Ext.app _ _)
    · subst h1; subst h2
      rw [← k.len] at hm; simp at hm; subst hm
      cases cs with
      | some cs =>
        obtain ⟨vals, e, rfl, ht, hr⟩ := hr
        refine ⟨(Array.getElem?_eq_some_iff.1 hb).1, fun j v hv => ?_, fun _ => ⟨hB, h0, vals, e, hb, ht, ?_⟩⟩
        · obtain ⟨c, h1, h2⟩ := hr.get hv
          refine ⟨c, ?_, h2⟩
          simp only [World.cell?, hb, h0, Nat.zero_add]
          simpa using h1
        · have := hr.length; simp at this; omega
      | none =>
        have hr : ob = .map #[] 0 := hr
        subst hr
        exact ⟨(Array.getElem?_eq_some_iff.1 hb).1, hB, h0, #[], hb, rfl, rfl⟩
  · intro i j oi oj li lj hi hj ho hv hli hlj hne
    have hvi : oi.live = true := by cases oi <;> simp_all [AObj.isOwn, AObj.live]
    rcases append_cases hi with ⟨h1, h2⟩ | ⟨h1, h2⟩ <;> rcases append_cases hj with ⟨h3, h4⟩ | ⟨h3, h4⟩
    · rw [List.getElem?_append_left (by rw [k.len]; exact h1)] at hli
      rw [List.getElem?_append_left (by rw [k.len]; exact h3)] at hlj
      exact k.uniq i j oi oj li lj h2 h4 ho hv hli hlj hne
    · rw [List.getElem?_append_left (by rw [k.len]; exact h1)] at hli
      subst h3
      rw [← k.len] at hlj; simp at hlj; subst hlj
      exact hu i oi li h2 hvi hli
    · rw [List.getElem?_append_left (by rw [k.len]; exact h3)] at hlj
      subst h1
      rw [← k.len] at hli; simp at hli; subst hli
      exact (hu j oj lj h4 hv hlj).symm
    · omega

section
variable {P : Program} {rnd : Rn} {B sz : Nat} {σ : Sg} {w : World} {a : Act}

theorem op_step {o : Oper} {op : AOp} {t : List (Nat × AV)} {h : Heap} {K : AV → Heap → Prop} (h1 : cOp P o = some op) (hk : HeapOK P B σ h w) (ht : TOK σ t a) (hs : op.eff P ⟨t, h⟩ K)
    {next : Act → World → Prop} {Q : Exit → Act → World → Prop}
    (hnext : ∀ c w' τ v h', HeapOK P B (σ ++ τ) h' w' → Rel (σ ++ τ) v c → Grow σ h w (σ ++ τ) h' w' → K v h' → next (a.put o.dst c) w') : o.wpIn (RF rnd) 0 P a w next Q := by
  have call : (∀ c, o.op ≠ .defer c) → ∀ (f : FuncId) (args : List AV) (cargs : Array Value) (v0 : AV) (h0 : Heap), (execOp a.eval o).run P w = .ok (.enter f cargs) w → RelL σ args cargs.toList →
      ACalls P f args h (fun v2 h2 => v2 = v0 ∧ h2 = h0) → K v0 h0 → o.wpIn (RF rnd) 0 P a w next Q := by
    intro hdf f args cargs v0 h0 hrun hrel hcall hK
    refine wpIn_of hdf ?_
    rw [hrun, Oper.uponIn_enter]
    refine ⟨depth_rf, ?_⟩
    have hcc : CallsIn Fence.wide (0 - 1) P f cargs w _ := callsIn_wide.2 (hcall.2 B σ w cargs hk hrel)
    refine CallsIn.mono (F := RF rnd) hcc ?_
    rintro e w' ⟨c, σ', v, h', rfl, ⟨τ, rfl⟩, e3, e4, e5, rfl, rfl⟩
    exact hnext c w' τ v h' e3 e4 e5 hK
  unfold cOp at h1
  split at h1
  · rename_i op' hcc
    simp only [Option.some.injEq] at h1; subst h1
    rcases cCall_cases hcc with ⟨f, args, ats, as, ho, hg, hca, rfl⟩ | ⟨i, args, ats, as, ho, hca, rfl⟩
    · obtain ⟨v0, h0, hcall, hK⟩ := hs
      refine call (by intro c e; rw [ho] at e; cases e) f _ (args.map a.eval) v0 h0 ?_ (by simpa using copds_rel ht hca) hcall hK
      simp [execOp, ho, resolve, Deferred.ofValue, Act.eval, invoke, guardFun_call hg]
    · simp only [AOp.eff, AOpd.ev] at hs
      split at hs
      · rename_i f first caps hf
        obtain ⟨v0, h0, hcall, hK⟩ := hs
        have hv := ht i
        rw [hf] at hv
        obtain ⟨fa, ca, hv1, hv2, hv3⟩ := hv
        refine call (by intro c e; rw [ho] at e; cases e) f _ (fa ++ args.map a.eval ++ ca) v0 h0 ?_ ?_ hcall hK
        · have : a.eval (.tmp i) = .func (.func f) fa ca := hv1
          simp [execOp, ho, resolve, Deferred.ofValue, this, invoke, guardFun_call hcall.1]
        · have := RelL.append (RelL.append hv2 (copds_rel ht hca)) hv3
          simpa using this
      · rename_i id hf
        obtain ⟨v0, h0, hy, hK⟩ := hs
        have hv := ht i
        rw [hf] at hv
        obtain ⟨l0, hv1, hv2⟩ := hv
        obtain ⟨l, fn, tm, as', bo, q1, q2, q3⟩ := hy B σ w (args.map a.eval) hk (by simpa using copds_rel ht hca)
        have el : l = l0 := by rw [hv1] at q1; cases q1; rfl
        subst el
        refine wpIn_of (by intro c e; rw [ho] at e; cases e) ?_
        have : a.eval (.tmp i) = .func (.yield l.blk) #[] #[] := hv2
        have hrun : (execOp a.eval o).run P w = .ok (.round l.blk fn tm as' bo) w := by
          simp [execOp, ho, resolve, Deferred.ofValue, this, invoke, q2]
        rw [hrun, Oper.uponIn_round]
        refine ⟨depth_rf, RoundIn.mono (F := RF rnd) q3 ?_⟩
        rintro e w' ⟨c, σ', v, h', rfl, ⟨τ, rfl⟩, e3, e4, e5, rfl, rfl⟩
        exact hnext c w' τ v h' e3 e4 e5 hK
      · cases hs
  · split at h1
    · rename_i op' hop
      split at h1
      · cases h1
      · rename_i hnc
        simp only [Option.some.injEq] at h1; subst h1
        have hsem : op'.sem (AOpd.ev t) h K := by
          cases op' <;> first | exact hs | (simp [AOp.isCall] at hnc)
        obtain ⟨c, w', τ, v, h', hr, g1, g2, g3, g4⟩ := AOp.sound hop hk ht hsem
        refine wpIn_of (cop_defer hop) ?_
        rcases hr with hr | ⟨rfl, hr⟩
        · rw [hr]; exact hnext _ _ _ _ _ g1 g2 g3 g4
        · rw [hr]; exact hnext _ _ _ _ _ g1 g2 g3 g4
    · simp only [Option.some.injEq] at h1; subst h1
      exact hs.elim

theorem made_step {o : Oper} {op : AOp} {t : List (Nat × AV)} {cs : Option (List AV)} {f : Nat → AV} (h1 : cOp P o = some op) (hcls : op.cls = 2) (ht : TOK σ t a)
    (hm : op.made (AOpd.ev t) = some (cs, f)) {next : Act → World → Prop} {Q : Exit → Act → World → Prop}
    (hnext : ∀ (c : Value) (ob : Obj) (tot : Nat), MRel σ cs ob tot → (∀ (σ' : Sg) (p : Nat) (l : Loc), σ'[p]? = some (some l) → l.blk = w.heap.size → l.base = 0 → l.tot = tot → Rel σ' (f p) c) →
      next (a.put o.dst c) (w.alloc ob)) : o.wpIn (RF rnd) 0 P a w next Q := by
  unfold cOp at h1
  split at h1
  · rename_i op' hcc
    simp only [Option.some.injEq] at h1; subst h1
    rcases cCall_cases hcc with ⟨f, args, ats, as, ho, hg, hca, rfl⟩ | ⟨i, args, ats, as, ho, hca, rfl⟩ <;> simp [AOp.cls] at hcls
  · split at h1
    · rename_i op' hop
      split at h1
      · cases h1
      · simp only [Option.some.injEq] at h1; subst h1
        -- carried out where the object's number is the heap's length; what is told of it holds at any number
        have key : ∃ (c : Value) (ob : Obj) (tot : Nat), (execOp a.eval o).run P w = .ok (.value c) (w.alloc ob) ∧ MRel σ cs ob tot ∧
            (∀ (σ' : Sg) (p : Nat) (l : Loc), σ'[p]? = some (some l) → l.blk = w.heap.size → l.base = 0 → l.tot = tot → Rel σ' (f p) c) := by
          obtain ⟨dst, oop, ty, pos, after, guard⟩ := o
          cases oop <;> simp only [cop] at hop
          case alloc =>
            rename_i e _
            obtain ⟨zs, hz, rfl⟩ := map_some hop
            simp only [AOp.made, Option.some.injEq, Prod.mk.injEq] at hm
            obtain ⟨rfl, rfl⟩ := hm
            obtain ⟨i, z, hi, hz0, hz1⟩ := info_zero hz
            refine ⟨.pointer (some ⟨w.heap.size, 0, none⟩), .cells z.cells e (0, 0), z.cells.size, ?_, ⟨_, _, rfl, rfl, scalarsAV_rel σ hz1⟩, ?_⟩
            · simp [execOp, Instr.alloc, zeroValue, typeInfo, hi, hz0, newVar, newRow]
            · intro σ' p l hl hb h0 _
              exact ⟨l, hl, by rw [hb, h0]⟩
          case box =>
            rename_i e x _
            obtain ⟨ax, hx, rfl⟩ := map_some hop
            simp only [AOp.made] at hm
            obtain ⟨cs', hcs, hcf⟩ := map_some hm
            simp only [Prod.mk.injEq] at hcf
            obtain ⟨rfl, rfl⟩ := hcf
            refine ⟨.pointer (some ⟨w.heap.size, 0, none⟩), .cells (a.eval x).cells e (0, 0), (a.eval x).cells.size, ?_, ⟨_, _, rfl, rfl, cellsOf_rel hcs (copd_rel ht hx)⟩, ?_⟩
            · simp [execOp, Instr.box, newVar, newRow]
            · intro σ' p l hl hb h0 _
              exact ⟨l, hl, by rw [hb, h0]⟩
          case buildSlice =>
            rename_i s ln parts _
            split at hop
            · rename_i e hu
              split at hop
              · rename_i sz zs g1 g2
                split at hop
                · rename_i hcond
                  obtain ⟨aps, hp, rfl⟩ := map_some hop
                  simp only [AOp.made] at hm
                  obtain ⟨cs', hcs, hcf⟩ := map_some hm
                  simp only [Prod.mk.injEq] at hcf
                  obtain ⟨rfl, rfl⟩ := hcf
                  obtain ⟨cells, k2, hcl, hrun⟩ := bslice_run (w := w) (dst := dst) (ty := ty) (pos := pos) (after := after) (guard := guard) ht hu g1 g2 hcond.1 hcond.2.1 hcond.2.2 hp hcs
                  refine ⟨_, .cells cells e (0, 0), cells.size, hrun, ⟨_, _, rfl, rfl, k2⟩, ?_⟩
                  intro σ' p l hl hb h0 htt
                  refine .inr ⟨l, 0, ln, hl, by rw [hb], Nat.le_refl _, fun _ => rfl, .inr ⟨by omega, ?_⟩⟩
                  rw [h0, htt, hcl]; omega
                · cases hop
              · cases hop
            · cases hop
          case makeSlice =>
            rename_i s x y _
            split at hop
            · rename_i e ax ay hu hx hy
              split at hop
              · rename_i i zs hi hz
                split at hop
                · rename_i hcond
                  simp only [Option.some.injEq] at hop; subst hop
                  simp only [AOp.made] at hm
                  split at hm
                  · rename_i k1 n k2 c e1 e2
                    split at hm
                    · rename_i hc2
                      simp only [Option.some.injEq, Prod.mk.injEq] at hm
                      obtain ⟨rfl, rfl⟩ := hm
                      have rx := copd_rel ht hx
                      have ry := copd_rel ht hy
                      rw [e1] at rx; rw [e2] at ry
                      simp only [Rel] at rx ry
                      obtain ⟨i', z, hi', hz0, hz1⟩ := info_zero hz
                      have ei : i' = i := by rw [hi] at hi'; cases hi'; rfl
                      subst ei
                      have hrel : RelL σ zs z.cells.toList := scalarsAV_rel σ hz1
                      have hzs : z.cells.size = i'.size := by have := hrel.length; simp at this; omega
                      have hrun := run_make (P := P) w s e i' z hu hi hz0 k1 k2 n c hc2.1 hc2.2.1 hc2.2.2.1 hc2.2.2.2
                      have hcells : (madeCells z.cells (c.toNat * i'.size)).toList = (List.replicate c.toNat z.cells.toList).flatten := by rw [← hzs]; exact madeCells_eq (by omega)
                      have hl := congrArg List.length hcells
                      simp [List.length_flatten, hzs] at hl
                      refine ⟨.slice (some ⟨w.heap.size, 0, none⟩) n.toNat c.toNat, .cells (madeCells z.cells (c.toNat * i'.size)) e (0, 0), (madeCells z.cells (c.toNat * i'.size)).size, ?_, ⟨_, _, rfl, rfl, (by rw [hcells]; exact relL_rep hrel _)⟩, ?_⟩
                      rotate_left
                      · intro σ' p l hlp hb h0 htt
                        refine .inr ⟨l, 0, c.toNat, hlp, (by rw [hb]), by omega, fun hd => ?_, .inr ⟨by omega, ?_⟩⟩
                        · simp at hd; omega
                        · rw [h0, htt, hl]; omega
                      · simp [execOp, rx, ry, hrun]
                    · cases hm
                  · cases hm
                · cases hop
              · cases hop
            · cases hop
          case makeMap =>
            rename_i s r _
            cases r with
            | some r => cases hop
            | none =>
              simp only [Option.some.injEq] at hop; subst hop
              simp only [AOp.made, Option.some.injEq, Prod.mk.injEq] at hm
              obtain ⟨rfl, rfl⟩ := hm
              refine ⟨.map (some w.heap.size), .map #[] 0, 0, ?_, rfl, ?_⟩
              · simp [execOp, Instr.makeMap]
              · intro σ' p l hl hb h0 _
                exact ⟨l, hl, by rw [hb]⟩
          case next =>
            rename_i it b _
            cases b with
            | false => obtain ⟨x, hx, rfl⟩ := map_some hop; simp [AOp.cls] at hcls
            | true => cases hop
          all_goals (exfalso; (repeat' split at hop) <;> first | (cases hop; done) | (simp only [Option.some.injEq] at hop; subst hop; simp [AOp.cls] at hcls; done) | (obtain ⟨x, hx, rfl⟩ := map_some hop; simp [AOp.cls] at hcls; done))
        obtain ⟨c, ob, tot, hrun, hrel, hval⟩ := key
        refine wpIn_of (cop_defer hop) ?_
        rw [hrun]
        exact hnext c ob tot hrel hval
    · simp only [Option.some.injEq] at h1; subst h1
      simp [AOp.cls] at hcls
end
end Go.Abs
