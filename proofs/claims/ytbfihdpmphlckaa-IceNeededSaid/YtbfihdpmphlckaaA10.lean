/- Regions, calls and code over abstract states. -/
import Derived.Test.YtbfihdpmphlckaaA9
import Derived.Deep.LoopGhost
set_option linter.unusedSimpArgs false
set_option linter.unusedVariables false
namespace Go.Abs
open Go.RowKit

def ACalls (P : Program) (f : FuncId) (args : List AV) (h : Heap) (R : AV → Heap → Prop) : Prop :=
  guardFun P f = true ∧ ∀ (B : Nat) (σ : Sg) (w : World) (cargs : Array Value), HeapOK P B σ h w → RelL σ args cargs.toList →
    Calls P f cargs w (fun e w' => ∃ c σ' v h', e = .returned c ∧ (∃ τ, σ' = σ ++ τ) ∧ HeapOK P B σ' h' w' ∧ Rel σ' v c ∧ Grow σ h w σ' h' w' ∧ R v h')

theorem ACalls.mono {P : Program} {f : FuncId} {args : List AV} {h : Heap} {R R' : AV → Heap → Prop} (k : ACalls P f args h R) (hr : ∀ v h', R v h' → R' v h') : ACalls P f args h R' :=
  ⟨k.1, fun B σ w cargs a b => (k.2 B σ w cargs a b).mono fun _ _ ⟨c, σ', v, h', e1, e2, e3, e4, e5, e6⟩ => ⟨c, σ', v, h', e1, e2, e3, e4, e5, hr _ _ e6⟩⟩

def RF (rnd : Rn) : Fence := { Fence.wide with round := rnd.rd }
def CallPost (P : Program) (B : Nat) (σ : Sg) (h : Heap) (w : World) (R : AV → Heap → Prop) (e : Ending) (w' : World) : Prop :=
  ∃ c σ' v h', e = .returned c ∧ (∃ τ, σ' = σ ++ τ) ∧ HeapOK P B σ' h' w' ∧ Rel σ' v c ∧ Grow σ h w σ' h' w' ∧ R v h'
def AYields (P : Program) (id : Nat) (args : List AV) (h : Heap) (R : AV → Heap → Prop) : Prop :=
  ∀ (B : Nat) (σ : Sg) (w : World) (cargs : Array Value), HeapOK P B σ h w → RelL σ args cargs.toList →
    ∃ (l : Loc) (fn : FuncId) (tmps : Array Value) (assign body : Code), σ[id]? = some (some l) ∧ (Instr.yield l.blk cargs).run P w = .ok (.round l.blk fn tmps assign body) w ∧
      RoundIn Fence.wide 0 P l.blk fn tmps assign body w (CallPost P B σ h w R)
theorem AYields.mono {P : Program} {id : Nat} {args : List AV} {h : Heap} {R R' : AV → Heap → Prop} (k : AYields P id args h R) (hr : ∀ v h', R v h' → R' v h') : AYields P id args h R' :=
  fun B σ w cargs a b => let ⟨l, fn, tm, as, bo, h1, h2, h3⟩ := k B σ w cargs a b
    ⟨l, fn, tm, as, bo, h1, h2, h3.mono fun _ _ ⟨c, σ', v, h', e1, e2, e3, e4, e5, e6⟩ => ⟨c, σ', v, h', e1, e2, e3, e4, e5, hr _ _ e6⟩⟩

def St.put (s : St) (dst : Option Nat) (v : AV) (h : Heap) : St :=
  match dst with
  | some d => ⟨(d, v) :: s.t, h⟩
  | none => ⟨s.t, h⟩

theorem put_h (s : St) (dst : Option Nat) (v : AV) (h : Heap) : (s.put dst v h).h = h := by cases dst <;> rfl

def St.ev (s : St) (x : AOpd) : AV := x.ev s.t

def AO.run (P : Program) (o : AO) (K : St → Prop) (s : St) : Prop :=
  match o.op with
  | .callF f args => ∃ R, ACalls P f (args.map (AOpd.ev s.t)) s.h R ∧ ∀ v h', R v h' → K (s.put o.dst v h')
  | .callV f args => match f.ev s.t with
    | .fn (.func f) first caps => ∃ R, ACalls P f (first ++ args.map (AOpd.ev s.t) ++ caps) s.h R ∧ ∀ v h', R v h' → K (s.put o.dst v h')
    | .yield id => ∃ R, AYields P id (args.map (AOpd.ev s.t)) s.h R ∧ ∀ v h', R v h' → K (s.put o.dst v h')
    | _ => False
  | .nextM i => nextAny (i.ev s.t) s.h (fun v h' => K (s.put o.dst v h'))
  | op => op.sem (AOpd.ev s.t) s.h (fun v h' => K (s.put o.dst v h'))

def AO.wp (P : Program) (o : AO) (K : St → Prop) (s : St) : Prop :=
  match o.guard with
  | none => o.run P K s
  | some (g, want) => match lk s.t g with
    | .bool b => if b = want then o.run P K s else K (s.put o.dst (.tuple []) s.h)
    | .tuple [] => K (s.put o.dst (.tuple []) s.h)
    | _ => False

def AOs.wp (P : Program) : List AO → (St → Prop) → St → Prop
  | [], K, s => K s
  | o :: os, K, s => o.wp P (fun s' => AOs.wp P os K s') s

/-! ### The model's regions -/
section
variable {P : Program} {rnd : Rn} {B n sz : Nat} {σ : Sg} {w : World} {a : Act} {s : St}

theorem tok_put {σ : Sg} {t : List (Nat × AV)} {a : Act} (ht : TOK σ t a) {d : Nat} (hd : d < a.tmps.size) {v : AV} {c : Value} (hv : Rel σ v c) : TOK σ ((d, v) :: t) (a.put (some d) c) := by
  intro k
  simp only [lk, Act.put]
  by_cases hk : d = k
  · subst hk
    simp only [if_true]
    have : (a.tmps.setIfInBounds d c).getD d undef = c := by simp [Array.getD, hd]
    rw [this]; exact hv
  · simp only [hk, if_false]
    have : (a.tmps.setIfInBounds d c).getD k undef = a.tmps.getD k undef := by
      simp only [Array.getD_eq_getD_getElem?, Array.getElem?_setIfInBounds, hk, if_false]
    rw [this]; exact ht k

theorem ext_agree {σ σ' : Sg} {n : Nat} (h : ∃ τ, σ' = σ ++ τ) (hn : n ≤ σ.length) : Agree n σ σ' := by
  obtain ⟨τ, rfl⟩ := h; exact Agree.app hn

theorem pre_ext {σ σ' : Sg} (h : ∃ τ, σ' = σ ++ τ) : Ext σ σ' := by
  obtain ⟨τ, rfl⟩ := h; exact Ext.app _ _

theorem Sim.put (k : Sim P rnd B n sz σ s w a) {σ' : Sg} {h' : Heap} {w' : World} {v : AV} {c : Value} (he : Ext σ σ') (hk : HeapOK P B σ' h' w') (hv : Rel σ' v c) (hct : Ctl w w')
    {dst : Option Nat} (hd : ∀ d, dst = some d → d < sz) : Sim P rnd B n sz σ' (s.put dst v h') w' (a.put dst c) := by
  have hn' : n ≤ h'.length := by
    have h1 := k.hn; have h2 := k.hk.len; have h3 := hk.len; have h4 := he.1
    omega
  cases dst with
  | none => exact ⟨hk, k.ht.mono he, k.hd.mono hct rfl, k.hsz, hn'⟩
  | some d =>
    refine ⟨hk, tok_put (k.ht.mono he) (by rw [k.hsz]; exact hd d rfl) hv, k.hd.mono hct rfl, ?_, hn'⟩
    simp only [Act.put, Array.size_setIfInBounds]; exact k.hsz

def Left (P : Program) (rnd : Rn) (B n sz : Nat) (σ : Sg) (h : Heap) (w : World) (K : St → Prop) (a' : Act) (w' : World) : Prop :=
  ∃ σ' s', Agree n σ σ' ∧ Sim P rnd B n sz σ' s' w' a' ∧ Grow σ h w σ' s'.h w' ∧ K s'

theorem Left.of {P : Program} {rnd : Rn} {B n sz : Nat} {σ σ1 : Sg} {g g1 : Heap} {w w1 w' : World} {a' : Act} {K : St → Prop} (h1 : Agree n σ σ1) (h2 : Grow σ g w σ1 g1 w1) (h : Left P rnd B n sz σ1 g1 w1 K a' w') : Left P rnd B n sz σ g w K a' w' := by
  obtain ⟨σ', s', a1, a2, a3, a4⟩ := h
  exact ⟨σ', s', h1.trans a1, a2, h2.trans a3, a4⟩

theorem guardFun_call {f : FuncId} (hg : guardFun P f = true) (args : Array Value) : (callFunc f args).run P w = .ok (.enter f args) w := by
  unfold guardFun at hg
  split at hg
  · rename_i fn hf
    simp only [Bool.and_eq_true, bne_iff_ne, ne_eq] at hg
    have h1 : ¬ fn.name = "runtime.NumGoroutine" := hg.2
    have h2 : ¬ fn.body = none := by intro hb; rw [hb] at hg; simp at hg
    simp [callFunc, hf, h1, h2]
  · cases hg

theorem cCall_cases {o : Oper} {op : AOp} (h : cCall P o = some op) :
    (∃ f args ats as, o.op = .call ⟨.value (.func f), args, ats⟩ ∧ guardFun P f = true ∧ copds args.toList = some as ∧ op = .callF f as) ∨
    (∃ i args ats as, o.op = .call ⟨.value (.tmp i), args, ats⟩ ∧ copds args.toList = some as ∧ op = .callV (.t i) as) := by
  unfold cCall at h
  split at h
  · rename_i f args ats ho
    split at h
    · rename_i hg
      obtain ⟨as, h1, h2⟩ := map_some h
      exact .inl ⟨f, args, ats, as, ho, hg, h1, h2.symm⟩
    · cases h
  · rename_i i args ats ho
    obtain ⟨as, h1, h2⟩ := map_some h
    exact .inr ⟨i, args, ats, as, ho, h1, h2.symm⟩
  · cases h

theorem cop_defer {o : Oper} {op : AOp} (h : cop P o = some op) : ∀ c, o.op ≠ .defer c := by
  intro c e
  unfold cop at h
  rw [e] at h
  cases h
theorem semAt_rf {o : Oper} (h : ∀ c, o.op ≠ .defer c) : o.semAt rnd.rd a.eval = execOp a.eval o := by
  obtain ⟨rd, lo⟩ := rnd
  cases rd with
  | none => exact Oper.semAt_none _ _
  | some l => exact Oper.semAt_some l _ o h
theorem wpIn_of {o : Oper} {next : Act → World → Prop} {Q : Exit → Act → World → Prop} (hd : ∀ c, o.op ≠ .defer c) (h : o.uponIn (RF rnd) 0 P a next Q ((execOp a.eval o).run P w)) : o.wpIn (RF rnd) 0 P a w next Q :=
  ⟨fun _ _ => trivial, by
    have e : o.semAt (RF rnd).round a.eval = execOp a.eval o := semAt_rf hd
    rw [e]; exact h⟩
theorem depth_rf {n : Nat} : (RF rnd).depth.isSome = true → 1 ≤ n := fun h => by cases h

theorem AO.run_sound {ops : Array Oper} {o : Oper} {ao : AO} (hc : cAO P sz ops o = some ao) (k : Sim P rnd B n sz σ s w a) {K : St → Prop} (hs : ao.run P K s)
    {next : Act → World → Prop} {Q : Exit → Act → World → Prop} (hnext : ∀ a' w', Left P rnd B n sz σ s.h w K a' w' → next a' w') : o.wpIn (RF rnd) 0 P a w next Q := by
  have hnσ : n ≤ σ.length := by rw [k.hk.len]; exact k.hn
  unfold cAO at hc
  split at hc
  · rename_i op g h1 h2
    split at hc
    · rename_i hd
      simp only [Option.some.injEq] at hc; subst hc
      have hdst : ∀ d, o.dst = some d → d < sz := by
        intro d he
        rw [he] at hd
        simpa [dstOk] using hd
      have post : ∀ (R : AV → Heap → Prop), (∀ v h', R v h' → K (s.put o.dst v h')) → ∀ (c : Value) (σ' : Sg) (v : AV) (h' : Heap) (w' : World), (∃ τ, σ' = σ ++ τ) → HeapOK P B σ' h' w' → Rel σ' v c → Grow σ s.h w σ' h' w' → R v h' → next (a.put o.dst c) w' :=
        fun R hK c σ' v h' w' e2 e3 e4 e5 e6 => hnext _ _ ⟨σ', _, ext_agree e2 hnσ, k.put (pre_ext e2) e3 e4 e5.ctl hdst, by rw [put_h]; exact e5, hK v h' e6⟩
      have call : (∀ c, o.op ≠ .defer c) → ∀ (f : FuncId) (args : List AV) (cargs : Array Value) (R : AV → Heap → Prop), (execOp a.eval o).run P w = .ok (.enter f cargs) w → RelL σ args cargs.toList →
          ACalls P f args s.h R → (∀ v h', R v h' → K (s.put o.dst v h')) → o.wpIn (RF rnd) 0 P a w next Q := by
        intro hdf f args cargs R hrun hrel hcall hK
        refine wpIn_of hdf ?_
        rw [hrun, Oper.uponIn_enter]
        refine ⟨depth_rf, ?_⟩
        have hcc : CallsIn Fence.wide (0 - 1) P f cargs w _ := callsIn_wide.2 (hcall.2 B σ w cargs k.hk hrel)
        refine CallsIn.mono (F := RF rnd) hcc ?_
        rintro e w' ⟨c, σ', v, h', rfl, e2, e3, e4, e5, e6⟩
        exact post R hK c σ' v h' w' e2 e3 e4 e5 e6
      unfold cOp at h1
      split at h1
      · rename_i op' hcc
        simp only [Option.some.injEq] at h1; subst h1
        rcases cCall_cases hcc with ⟨f, args, ats, as, ho, hg, hca, rfl⟩ | ⟨i, args, ats, as, ho, hca, rfl⟩
        · obtain ⟨R, hcall, hK⟩ := hs
          refine call (by intro c e; rw [ho] at e; cases e) f _ (args.map a.eval) R ?_ (by simpa using copds_rel k.ht hca) hcall hK
          simp [execOp, ho, resolve, Deferred.ofValue, Act.eval, invoke, guardFun_call hg]
        · simp only [AO.run, AOpd.ev] at hs
          have hdf : ∀ c, o.op ≠ .defer c := by intro c e; rw [ho] at e; cases e
          split at hs
          · rename_i f first caps hf
            obtain ⟨R, hcall, hK⟩ := hs
            have hv := k.ht i
            rw [hf] at hv
            obtain ⟨fa, ca, hv1, hv2, hv3⟩ := hv
            refine call hdf f _ (fa ++ args.map a.eval ++ ca) R ?_ ?_ hcall hK
            · have : a.eval (.tmp i) = .func (.func f) fa ca := hv1
              simp [execOp, ho, resolve, Deferred.ofValue, this, invoke, guardFun_call hcall.1]
            · have := RelL.append (RelL.append hv2 (copds_rel k.ht hca)) hv3
              simpa using this
          · rename_i id hf
            obtain ⟨R, hy, hK⟩ := hs
            have hv := k.ht i
            rw [hf] at hv
            obtain ⟨l0, hv1, hv2⟩ := hv
            obtain ⟨l, fn, tm, as', bo, q1, q2, q3⟩ := hy B σ w (args.map a.eval) k.hk (by simpa using copds_rel k.ht hca)
            have el : l = l0 := by rw [hv1] at q1; cases q1; rfl
            subst el
            refine wpIn_of hdf ?_
            have : a.eval (.tmp i) = .func (.yield l.blk) #[] #[] := hv2
            have hrun : (execOp a.eval o).run P w = .ok (.round l.blk fn tm as' bo) w := by
              have e0 : (#[] : Array Value) ++ args.map a.eval = args.map a.eval := by simp
              simp [execOp, ho, resolve, Deferred.ofValue, this, invoke, q2]
            rw [hrun, Oper.uponIn_round]
            refine ⟨depth_rf, RoundIn.mono (F := RF rnd) q3 ?_⟩
            rintro e w' ⟨c, σ', v, h', rfl, e2, e3, e4, e5, e6⟩
            exact post R hK c σ' v h' w' e2 e3 e4 e5 e6
          · cases hs
      · split at h1
        · rename_i op' hop
          split at h1
          · cases h1
          · rename_i hnc
            simp only [Option.some.injEq] at h1; subst h1
            have hres : Res P B σ s.h w o a (fun v h' => K (s.put o.dst v h')) := by
              refine AOp.soundN hop k.hk k.ht ?_
              cases op' <;> first | exact hs | (simp [AOp.isCall] at hnc; done)
            obtain ⟨c, w', τ, v, h', hr, g1, g2, g3, g4⟩ := hres
            have hl : Left P rnd B n sz σ s.h w K (a.put o.dst c) w' := ⟨σ ++ τ, _, Agree.app hnσ, k.put (Ext.app _ _) g1 g2 g3.ctl hdst, by rw [put_h]; exact g3, g4⟩
            refine wpIn_of (cop_defer hop) ?_
            rcases hr with hr | ⟨rfl, hr⟩
            · rw [hr]; exact hnext _ _ hl
            · rw [hr]; exact hnext _ _ hl
        · simp only [Option.some.injEq] at h1; subst h1
          exact hs.elim
    · cases hc
  · cases hc

theorem AO.sound {ops : Array Oper} {o : Oper} {ao : AO} (hc : cAO P sz ops o = some ao) (k : Sim P rnd B n sz σ s w a) {K : St → Prop} (hs : ao.wp P K s)
    {next : Act → World → Prop} {Q : Exit → Act → World → Prop} (hnext : ∀ a' w', Left P rnd B n sz σ s.h w K a' w' → next a' w') :
    if Region.wanted o (yielded ops a.tmps) then o.wpIn (RF rnd) 0 P a w next Q else next (a.put o.dst undef) w := by
  have hc' := hc
  unfold cAO at hc
  split at hc
  · rename_i op g h1 h2
    split at hc
    · rename_i hd
      simp only [Option.some.injEq] at hc; subst hc
      have hdst : ∀ d, o.dst = some d → d < sz := by
        intro d he
        rw [he] at hd
        simpa [dstOk] using hd
      have skip : K (s.put o.dst (.tuple []) s.h) → next (a.put o.dst undef) w := fun hK =>
        hnext _ _ ⟨σ, _, Agree.refl _ _, k.put (v := .tuple []) (c := undef) (Ext.refl σ) k.hk ⟨#[], rfl, rfl⟩ (Ctl.refl _) hdst, by rw [put_h]; exact Grow.refl _ _ _, hK⟩
      unfold cguard at h2
      unfold AO.wp at hs
      split at h2
      · rename_i hg
        simp only [Option.some.injEq] at h2; subst h2
        simp only [Region.wanted, hg, if_true]
        exact AO.run_sound hc' k hs hnext
      · rename_i j want hg
        split at h2
        · rename_i d hj
          simp only [Option.some.injEq] at h2; subst h2
          simp only at hs
          have hy : yielded ops a.tmps j = match a.tmps[d]? with | some (.bool b) => some b | _ => none := by
            simp only [yielded, hj, Option.bind_some]
            cases a.tmps[d]? with
            | none => rfl
            | some v => cases v <;> rfl
          have ht := k.ht d
          split at hs
          · rename_i b hb
            rw [hb] at ht
            simp only [Rel] at ht
            have hget : a.tmps[d]? = some (.bool b) := by
              simp only [Array.getD_eq_getD_getElem?] at ht
              cases hq : a.tmps[d]? with
              | none => rw [hq] at ht; cases ht
              | some v => rw [hq] at ht; simp only [Option.getD_some] at ht; rw [ht]
            rw [hget] at hy
            simp only at hy
            split at hs
            · rename_i hbw
              subst hbw
              simp only [Region.wanted, hg, hy, beq_self_eq_true, if_true]
              exact AO.run_sound hc' k hs hnext
            · rename_i hbw
              have : (some b == some want) = false := by simp [hbw]
              simp only [Region.wanted, hg, hy, this, Bool.false_eq_true, if_false]
              exact skip hs
          · rename_i hb
            rw [hb] at ht
            obtain ⟨arr, ht1, _⟩ := ht
            have hy' : yielded ops a.tmps j = none := by
              rw [hy]
              simp only [Array.getD_eq_getD_getElem?] at ht1
              cases hq : a.tmps[d]? with
              | none => rfl
              | some v => rw [hq] at ht1; simp only [Option.getD_some] at ht1; rw [ht1]
            have : ((none : Option Bool) == some want) = false := rfl
            simp only [Region.wanted, hg, hy', this, Bool.false_eq_true, if_false]
            exact skip hs
          · cases hs
        · cases h2
    · cases hc
  · cases hc

theorem AOs.sound {ops : Array Oper} {Q : Exit → Act → World → Prop} : ∀ (l : List Oper) (al : List AO) (s : St) (σ : Sg) (w : World) (a : Act) (K : St → Prop), cAOs P sz ops l = some al → Sim P rnd B n sz σ s w a → AOs.wp P al K s →
    (∀ a' w', Left P rnd B n sz σ s.h w K a' w' → Q .normal a' w') → wpListIn (RF rnd) 0 P ops Q l a w
  | [], al, s, σ, w, a, K, hc, k, hs, hQ => by
    simp only [cAOs, Option.some.injEq] at hc; subst hc
    exact hQ _ _ ⟨σ, s, Agree.refl _ _, k, Grow.refl _ _ _, hs⟩
  | o :: l, al, s, σ, w, a, K, hc, k, hs, hQ => by
    simp only [cAOs] at hc
    split at hc
    · rename_i ao al' h1 h2
      simp only [Option.some.injEq] at hc; subst hc
      have key := AO.sound (P := P) (next := wpListIn (RF rnd) 0 P ops Q l) (Q := Q) h1 k hs (by
        rintro a' w' ⟨σ', s', g1, g2, g3, g4⟩
        exact AOs.sound l al' s' σ' w' a' K h2 g2 g4 (fun a'' w'' hl => hQ _ _ (hl.of g1 g3)))
      unfold wpListIn
      split
      · rename_i hw; rw [if_pos hw] at key; exact key
      · rename_i hw; rw [if_neg hw] at key; exact ⟨fun _ _ => trivial, key⟩
    · cases hc
end

theorem lk_prune (t : List (Nat × AV)) : ∀ (ks : List Nat) (k : Nat), lk (ks.map fun k => (k, lk t k)) k = .junk ∨ lk (ks.map fun k => (k, lk t k)) k = lk t k
  | [], k => .inl rfl
  | j :: ks, k => by
    simp only [List.map_cons, lk]
    by_cases h : j = k
    · subst h; simp
    · simp only [h, if_false]; exact lk_prune t ks k

end Go.Abs
