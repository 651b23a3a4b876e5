/- A region that draws its order, whole. -/
import Derived.Test.YtbfihdpmphlckaaA18
set_option linter.unusedSimpArgs false
set_option linter.unusedVariables false
namespace Go.Abs
open Go.RowKit

theorem cAO_parts {P : Program} {sz : Nat} {ops : Array Oper} {o : Oper} {ao : AO} (h : cAO P sz ops o = some ao) :
    cOp P o = some ao.op ∧ cguard ops o = some ao.guard ∧ dstOk sz o.dst = true ∧ ao.dst = o.dst := by
  unfold cAO at h
  split at h
  · rename_i op g h1 h2
    split at h
    · rename_i hd
      simp only [Option.some.injEq] at h; subst h
      exact ⟨h1, h2, hd, rfl⟩
    · cases h
  · cases h

theorem tmps_get {a : Act} {d : Nat} {b : Bool} (h : a.tmps.getD d undef = .bool b) : a.tmps[d]? = some (.bool b) := by
  simp only [Array.getD_eq_getD_getElem?] at h
  cases hq : a.tmps[d]? with
  | none => rw [hq] at h; cases h
  | some v => rw [hq] at h; simp only [Option.getD_some] at h; rw [h]

theorem yielded_eq {ops : Array Oper} {tmps : Array Value} {j d : Nat} (hj : ((ops[j]?).bind (·.dst)) = some d) : yielded ops tmps j = match tmps[d]? with | some (.bool b) => some b | _ => none := by
  simp only [yielded, hj, Option.bind_some]
  cases tmps[d]? with
  | none => rfl
  | some v => cases v <;> rfl

theorem wanted_yes {P : Program} {sz : Nat} {ops : Array Oper} {o : Oper} {ao : AO} {σ : Sg} {a : Act} {t : List (Nat × AV)} (h : cAO P sz ops o = some ao) (hr : ∀ k ∈ ao.slots, Rel σ (lk t k) (a.tmps.getD k undef))
    (hg : ao.guard = none ∨ ∃ g want, ao.guard = some (g, want) ∧ lk t g = .bool want) : Region.wanted o (yielded ops a.tmps) = true := by
  obtain ⟨_, h2, _, _⟩ := cAO_parts h
  unfold cguard at h2
  unfold Region.wanted
  split at h2
  · rename_i hn; rw [hn]
  · rename_i j want hj
    rw [hj]
    split at h2
    · rename_i d hd
      simp only [Option.some.injEq] at h2
      rcases hg with hg | ⟨g, want', hg, hl⟩
      · rw [hg] at h2; cases h2
      · rw [hg] at h2
        simp only [Option.some.injEq, Prod.mk.injEq] at h2
        obtain ⟨rfl, rfl⟩ := h2
        have := hr d (by simp [AO.slots, hg])
        rw [hl] at this
        simp only [Rel] at this
        simp only [yielded_eq hd, tmps_get this, beq_self_eq_true]
    · cases h2

theorem wanted_no {P : Program} {sz : Nat} {ops : Array Oper} {o : Oper} {ao : AO} {σ : Sg} {a : Act} {t : List (Nat × AV)} (h : cAO P sz ops o = some ao) (hr : ∀ k ∈ ao.slots, Rel σ (lk t k) (a.tmps.getD k undef))
    (hg : ∃ g want, ao.guard = some (g, want) ∧ (lk t g = .tuple [] ∨ ∃ b, lk t g = .bool b ∧ b ≠ want)) : Region.wanted o (yielded ops a.tmps) = false := by
  obtain ⟨_, h2, _, _⟩ := cAO_parts h
  unfold cguard at h2
  unfold Region.wanted
  obtain ⟨g, want', hg, hl⟩ := hg
  split at h2
  · rw [hg] at h2; cases h2
  · rename_i j want hj
    rw [hj]
    split at h2
    · rename_i d hd
      rw [hg] at h2
      simp only [Option.some.injEq, Prod.mk.injEq] at h2
      obtain ⟨rfl, rfl⟩ := h2
      have hm := hr d (by simp [AO.slots, hg])
      simp only [yielded_eq hd]
      rcases hl with hl | ⟨b, hl, hb⟩
      · rw [hl] at hm
        obtain ⟨arr, ht1, _⟩ := hm
        simp only [Array.getD_eq_getD_getElem?] at ht1
        cases hq : a.tmps[d]? with
        | none => rfl
        | some v => rw [hq] at ht1; simp only [Option.getD_some] at ht1; rw [ht1]; rfl
      · rw [hl] at hm
        simp only [Rel] at hm
        simp [tmps_get hm, hb]
    · cases h2

theorem read_app {op : AOp} {ev : AOpd → AV} {h d : Heap} {x : AV} (hc : op.cls = 1) (hs : op.sem ev h (fun v' _ => v' = x)) : op.sem ev (h ++ d) (fun v' h' => v' = x ∧ h' = h ++ d) := by
  have hrd : ∀ (id off n : Nat) (vs : List AV), rd h id off n = some vs → rd (h ++ d) id off n = some vs := by
    intro id off n vs hv
    unfold rd at hv ⊢
    split at hv
    · rename_i ws own hid
      rw [List.getElem?_append_left (get_some_lt hid), hid]; exact hv
    · cases hv
  have hmap : ∀ (x : AV) (es : List (AV × AV)), mapAt h x = some es → mapAt (h ++ d) x = some es := by
    intro x es hm
    unfold mapAt at hm ⊢
    split at hm
    · exact hm
    · rename_i id
      split at hm
      · rename_i es' hi
        simp only [List.getElem?_append_left (get_some_lt hi), hi]; exact hm
      · cases hm
    · cases hm
  cases op <;> first
    | (simp [AOp.cls] at hc; done)
    | skip
  · simp only [AOp.sem] at hs ⊢
    split at hs
    · split at hs
      · rename_i v hv
        rw [hrd _ _ _ _ hv]; exact ⟨hs, trivial⟩
      · cases hs
    · cases hs
  · simp only [AOp.sem] at hs ⊢
    split at hs
    · split at hs
      · rename_i v hv
        rw [hrd _ _ _ _ hv]; exact ⟨hs, trivial⟩
      · cases hs
    · cases hs
  · simp only [AOp.sem] at hs ⊢
    refine ⟨hs.1, ?_⟩
    have hs := hs.2
    split at hs
    · rename_i es hes
      rw [hmap _ _ hes]
      simp only
      revert hs
      generalize findA _ _ es = r
      intro hs
      cases r with
      | none => exact hs.elim
      | some r =>
        cases r with
        | none => exact ⟨hs, trivial⟩
        | some n =>
          simp only at hs ⊢
          revert hs
          generalize es[n]? = p
          intro hs
          cases p with
          | none => exact hs.elim
          | some p => exact ⟨hs, trivial⟩
    · cases hs
  · simp only [AOp.sem] at hs ⊢
    split at hs
    · rename_i es hes
      rw [hmap _ _ hes]; exact ⟨hs, trivial⟩
    · cases hs
  · simp only [AOp.sem] at hs ⊢
    split at hs
    · rename_i id hid
      split at hs
      · rename_i m since seen last hob
        split at hs
        · rename_i b hb
          split at hs
          · rename_i es bs c hm
            simp only [List.getElem?_append_left (get_some_lt hob), hob, hb, List.getElem?_append_left (get_some_lt hm), hm]
            refine ⟨hs.1, ?_⟩
            have hs := hs.2
            split at hs
            · exact ⟨hs, trivial⟩
            · cases hs
          · cases hs
        · cases hs
      · cases hs
    · cases hs

section
variable {P : Program} {rnd : Rn} {sz : Nat} {ops : Array Oper} {al : List AO} {ps : List (List Nat)} {c : Cert} {K : St → Prop} {s : St} {B n0 : Nat} {σ0 : Sg} {w0 : World}

theorem pre_mem (hs : Static P sz ops al ps) {l : List Nat} (ht : Topo ops l) : ∀ (m : Nat) (p1 p2 : List Nat) (i : Nat), p1.length = m → l = p1 ++ i :: p2 → ∀ k ∈ pr ps i, k ∈ p1 := by
  intro m
  induction m using Nat.strongRecOn with
  | _ m ih =>
    intro p1 p2 i hm hl k hk
    have hi : i < ops.size := ht.lt i (by rw [hl]; simp)
    have hop : ops[i]? = some ops[i] := by simp [hi]
    rcases (hs.pre i _ hop k hk).2 with ⟨e, he, hb, rfl⟩ | ⟨e, he, hb, hke⟩
    · exact ht.deps p1 p2 i hl _ hop e he hb
    · have hin := ht.deps p1 p2 i hl _ hop e he hb
      obtain ⟨q1, q2, hq⟩ := List.append_of_mem hin
      have := ih q1.length (by rw [← hm, hq]; simp; try omega) q1 (q2 ++ i :: p2) e.on rfl (by simp [hl, hq]) k hke
      rw [hq]; exact List.mem_append_left _ this

theorem order_run (hs : Static P sz ops al ps) (g : Good P ps al 0 [] [] K s c) (hn0 : n0 ≤ s.h.length) {Q : Exit → Act → World → Prop}
    (hQ : ∀ a' w', Left P rnd B n0 sz σ0 s.h w0 K a' w' → Q .normal a' w') : ∀ (rest D : List Nat) (q : Nat) (σ : Sg) (w : World) (a : Act), Topo ops (D ++ rest) → Inv P rnd c al s.t B n0 sz σ0 s.h w0 D q σ w a → wpOpsIn (RF rnd) 0 P ops Q rest a w
  | [], D, q, σ, w, a, ht, iv => by
    have hruns : ∀ (j : Nat) (o : AO), al[j]? = some o → c.Runs P o j := fun j o ho => g.runs j o (Nat.zero_le _) ho
    have hall : ∀ i, i < al.length → i ∈ D := fun i hi => by have := ht.all i (by rw [← hs.len]; exact hi); simpa using this
    have iv' := Inv.advance_to hruns (al.length - q) iv (by have := iv.qle; omega) (fun k o _ _ ho _ => hall k (get_some_lt ho))
    rw [show q + (al.length - q) = al.length by have := iv.qle; omega] at iv'
    have hfull : σ.take (c.hp al.length).length = σ := List.take_of_length_le iv'.up
    have hk := iv'.hk
    have hg := iv'.gr
    rw [hfull] at hk hg
    refine hQ a w ⟨σ, ⟨c.T al.length, c.hp al.length⟩, iv'.ag, ⟨hk, fun k => ?_, iv'.defers, iv'.size, ?_⟩, hg, g.fin⟩
    · obtain ⟨t1, t2⟩ := T_lk hruns hs.dst g.T al.length (Nat.le_refl _) k
      show Rel σ (lk (c.T al.length) k) _
      rcases Classical.em (∃ (j : Nat) (oj : AO), al[j]? = some oj ∧ oj.dst = some k) with ⟨j, oj, hj, hjk⟩ | hno
      · rw [t1 j oj (get_some_lt hj) hj hjk]
        exact (iv'.tok k).1 j oj (hall j (get_some_lt hj)) hj hjk
      · rw [t2 fun m om _ hom hmk => hno ⟨m, om, hom, hmk⟩]
        exact (iv'.tok k).2 fun m om _ hom hmk => hno ⟨m, om, hom, hmk⟩
    · have := hp_mono hruns (Nat.zero_le al.length) (Nat.le_refl _)
      rw [g.hp] at this
      show n0 ≤ (c.hp al.length).length
      omega
  | i :: rest, D, q, σ, w, a, ht, iv => by
    have hruns : ∀ (j : Nat) (o : AO), al[j]? = some o → c.Runs P o j := fun j o ho => g.runs j o (Nat.zero_le _) ho
    have hi : i < ops.size := ht.lt i (by simp)
    have hop : ops[i]? = some ops[i] := by simp [hi]
    obtain ⟨o, ho, hc⟩ := hs.comp i _ hop
    obtain ⟨hc1, hc2, hc3, hc4⟩ := cAO_parts hc
    have hD : i ∉ D := by
      have := ht.nodup
      rw [List.nodup_append] at this
      intro hm
      exact this.2.2 i hm i (by simp) rfl
    have hpre : ∀ k ∈ pr ps i, k ∈ D := pre_mem hs ht D.length D rest i rfl rfl
    have hcl : ∀ j ∈ D, ∀ k ∈ pr ps j, k ∈ D := by
      intro j hj k hk
      obtain ⟨p1, p2, hp⟩ := List.append_of_mem hj
      have := pre_mem hs ht p1.length p1 (p2 ++ i :: rest) j rfl (by rw [hp]; simp) k hk
      rw [hp]; exact List.mem_append_left _ this
    have ht' : Topo ops ((D ++ [i]) ++ rest) := by simpa using ht
    have hop' := opnd hs hruns g.T iv.tok ho hD hcl hpre
    have hops : ∀ k ∈ o.op.slots, Rel σ (lk (c.T i) k) (a.tmps.getD k undef) := fun k hk => hop' k (by simp [AO.slots, hk])
    have hdsz : ∀ d, o.dst = some d → d < a.tmps.size := by
      intro d hd
      rw [iv.size]
      rw [hc4] at hd
      rw [hd] at hc3
      simpa [dstOk] using hc3
    have hput : ∀ x, (a.put (ops[i]).dst x).defers = a.defers ∧ (a.put (ops[i]).dst x).tmps.size = sz := by
      intro x
      cases hd : (ops[i]).dst with
      | none => exact ⟨rfl, iv.size⟩
      | some d => exact ⟨rfl, by simp only [Act.put, Array.size_setIfInBounds]; exact iv.size⟩
    have hq0 : (c.hp 0).length ≤ (c.hp q).length := hp_mono hruns (Nat.zero_le _) iv.qle
    rw [g.hp] at hq0
    have hr := hruns i o ho
    simp only [wpOpsIn, hop]
    rcases hr.2 with ⟨hsk, hv, _, hgd⟩ | ⟨hsk, hgd, hcases⟩
    · -- passed over
      have hw := wanted_no hc hop' hgd
      rw [if_neg (by rw [hw]; simp)]
      refine ⟨fun _ _ => trivial, ?_⟩
      have htok := iv.tok.put (x := undef) hs.dst ho hdsz (by rw [hv]; exact ⟨#[], rfl, rfl⟩)
      rw [hc4] at htok
      exact order_run hs g hn0 hQ rest (D ++ [i]) q σ w _ ht' (iv.quiet ho (fun h => by have := h.2; rw [hsk] at this; cases this) iv.padded (Grow.refl _ _ _) htok (iv.defers.mono (Ctl.refl _) (hput _).1) (hput _).2)
    · have hw := wanted_yes hc hop' hgd
      rw [if_pos hw]
      -- an operation that changes no object, in any order
      have quiet : ¬ c.HR o.op i → (∀ q', Inv P rnd c al s.t B n0 sz σ0 s.h w0 D q' σ w a → o.op.sem (AOpd.ev (c.T i)) (c.hp q' ++ List.replicate (σ.drop (c.hp q').length).length .dead) (fun v' h' => v' = c.v i ∧ h' = c.hp q' ++ List.replicate (σ.drop (c.hp q').length).length .dead) →
          (ops[i]).wpIn (RF rnd) 0 P a w (wpOpsIn (RF rnd) 0 P ops Q rest) Q) := by
        intro hn q' iv hsem
        have hcls3 : o.op.cls ≠ 3 := fun h => hn ⟨by omega, hsk⟩
        have hsem' := sem_congr (onlySlots_lk (c.T i) o.op.slots) hsem
        refine op_step (t := onlySlots (c.T i) o.op.slots) hc1 iv.padded (onlySlots_tok hops) (sem_eff hcls3 hsem') ?_
        rintro x w' τ v h' k1 k2 k3 ⟨rfl, rfl⟩
        have hτ : τ = [] := by
          have h1 := k1.len
          have h2 := iv.padded.len
          rw [List.length_append] at h1
          exact List.eq_nil_of_length_eq_zero (by omega)
        subst hτ
        rw [List.append_nil] at k1 k2 k3
        have htok := iv.tok.put (x := x) hs.dst ho hdsz k2
        rw [hc4] at htok
        exact order_run hs g hn0 hQ rest (D ++ [i]) q' σ w' _ ht' (iv.quiet ho hn k1 k3 htok (iv.defers.mono k3.ctl (hput _).1) (hput _).2)
      rcases hcases with ⟨h1, h2, h3⟩ | ⟨h1, h2⟩ | ⟨h1, h2, h3⟩ | ⟨h1, h2, h3, h4⟩
      · exact quiet (fun h => by have := h.1; omega) q iv (sem_pure h1 h3).2
      · obtain ⟨q', iv', hq'⟩ := Inv.normal hruns iv
        have hread := g.reads i o (Nat.zero_le _) ho h1 hsk q' (Nat.zero_le _) iv'.qle (by
          rcases hq' with h | ⟨oq, e1, e2, e3⟩
          · exact .inl h
          · exact .inr (.inr ⟨⟨oq, e1, e2⟩, fun hm => e3 (hpre _ hm)⟩)) (by
          intro k ok _ hk hok hkr hm
          exact hD (hcl k (iv'.before k ok hk hok hkr) i hm))
        exact quiet (fun h => by have := h.1; omega) q' iv' (read_app h1 hread)
      · have hHR : c.HR o.op i := ⟨by omega, hsk⟩
        have hqi : q ≤ i := by
          rcases Nat.lt_or_ge i q with h | h
          · exact (hD (iv.before i o h ho hHR)).elim
          · exact h
        obtain ⟨cs, f, m1, m2, m3, m4⟩ := made_hp hr h1 hsk
        have hscoped : ∀ k ∈ o.op.slots, Rel (σ.take (pid c i)) (lk (c.T i) k) (a.tmps.getD k undef) := by
          intro k hk
          rcases Nat.lt_or_ge (pid c i) σ.length with hp | hp
          · exact rel_take (List.all_eq_true.1 m4 k hk) (hops k hk) (by omega)
          · rw [List.take_of_length_le hp]; exact hops k hk
        have hm1' : o.op.made (AOpd.ev (onlySlots (c.T i) o.op.slots)) = some (cs, f) := by
          have he := onlySlots_lk (c.T i) o.op.slots
          revert m1 he
          generalize o.op = op
          intro m1 he
          cases op <;> simp only [AOp.made, reduceCtorEq] at m1 ⊢
          · exact m1
          · simp only [AOp.slots] at he ⊢; rw [← ev_congr he]; exact m1
          · simp only [AOp.slots] at he ⊢; rw [← fill_congr _ he]; exact m1
          · simp only [AOp.slots, List.mem_append] at he ⊢; rw [← ev_congr (fun k hk => he k (.inl hk)), ← ev_congr (fun k hk => he k (.inr hk))]; exact m1
          · exact m1
        refine made_step (t := onlySlots (c.T i) o.op.slots) hc1 h1 (onlySlots_tok hscoped) hm1' ?_
        intro x ob tot hrel hval
        obtain ⟨hext, hinv⟩ := iv.make hruns ho hHR h1 hD hqi (by omega) m3 hrel
        have htok := (iv.tok.mono hext).put (x := x) hs.dst ho hdsz (by rw [m2]; exact hval _ _ ⟨w.heap.size, 0, tot⟩ (place_at _ _ _) rfl rfl rfl)
        rw [hc4] at htok
        exact order_run hs g hn0 hQ rest (D ++ [i]) q _ _ _ ht' (hinv _ htok (iv.defers.mono (Ctl.alloc _ _) (hput _).1) (hput _).2)
      · have hHR : c.HR o.op i := ⟨by omega, hsk⟩
        have hqi : q ≤ i := by
          rcases Nat.lt_or_ge i q with h | h
          · exact (hD (iv.before i o h ho hHR)).elim
          · exact h
        have hil := get_some_lt ho
        have iv' := Inv.advance_to hruns (i - q) iv (by omega) (fun k ok k1 k2 k3 k4 => hpre k (hs.chain k i ok o k3 ho (by omega) k4.1 h1))
        rw [show q + (i - q) = i by omega] at iv'
        have hq1 : (c.hp 0).length ≤ (c.hp i).length := hp_mono hruns (Nat.zero_le _) (by omega)
        rw [g.hp] at hq1
        have hscoped : ∀ k ∈ o.op.slots, Rel (σ.take (c.hp i).length) (lk (c.T i) k) (a.tmps.getD k undef) := fun k hk =>
          rel_take (List.all_eq_true.1 h4 k hk) (hops k hk) iv'.len
        refine op_step (t := onlySlots (c.T i) o.op.slots) hc1 iv'.hk (onlySlots_tok hscoped) (eff_congr (onlySlots_lk (c.T i) o.op.slots) h2) ?_
        rintro x w' τ v h' k1 k2 k3 ⟨rfl, rfl⟩
        obtain ⟨σ', e1, e2, hinv⟩ := iv'.effect hruns ho hD (by omega) k1 k3
        have htok := (iv'.tok.mono e1).put (x := x) hs.dst ho hdsz (Rel.mono e2 _ _ k2)
        rw [hc4] at htok
        exact order_run hs g hn0 hQ rest (D ++ [i]) (i + 1) _ _ _ ht' (hinv _ htok (iv.defers.mono k3.ctl (hput _).1) (hput _).2)
end
end Go.Abs
