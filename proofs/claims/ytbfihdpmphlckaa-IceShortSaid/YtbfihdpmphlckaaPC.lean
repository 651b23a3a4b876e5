/- Several texts as one. -/
import Derived.Test.YtbfihdpmphlckaaPB
import Derived.Test.YtbfihdpmphlckaaRA
import Derived.Test.YtbfihdpmphlckaaR5
/- What a safe plan is, by needs; and the first one with the fewest sprayings. -/
namespace Go.Proofs
open Go.Abs
attribute [local simp] AOp.den AOpd.ev lk cellsOf rd_new rd_new0 rd_zero rd_succ wr_new wr_new0 wr_zero wr_succ splice fillA binA scal sliceCells List.length_append argsT AV.sc scL AObj.sc resV getAll AR.get AOp.slots opdSlots opdsSlots partSlots eqAt at_new0 at_new set_new0 set_new wrap64
set_option linter.unusedSimpArgs false
set_option linter.unusedVariables false
open Go.Hall
theorem ct_mono {p : Nat → Bool} {d : Nat} : ∀ {e : Nat}, d ≤ e → ct p d ≤ ct p e
  | 0, h => by
    obtain rfl : d = 0 := by omega
    exact Int.le_refl _
  | e + 1, h => by
    by_cases hd : d = e + 1
    · subst hd; exact Int.le_refl _
    · have := ct_mono (p := p) (d := d) (e := e) (by omega)
      have e1 : ct p (e + 1) = ct p e + if p e = true then 1 else 0 := rfl
      rw [e1]; split <;> omega
structure GoodP (c : Cv) (Q : Nat → Nat → Bool) : Prop where
  rows : ∀ h, h < c.hs.length → ct (Q h) c.bs.length ≤ handsF c h
  needs : ∀ s, s < c.bs.length → ∀ d, d < c.hs.length → ndR c s d ≤ ct (fun h => Q h s) d
  tot : ∀ s, s < c.bs.length → ct (fun h => Q h s) c.hs.length = ndR c s (c.hs.length - 1)
theorem feas0_iff {c : Cv} (hb : c.bs.length ≤ 12) (h8 : c.hs.length ≤ 8) : feasR c (fun _ _ => none) ↔ ∃ Q : Nat → Nat → Bool, (∀ h, h < c.hs.length → ct (Q h) c.bs.length ≤ handsF c h) ∧ ∀ s, s < c.bs.length → ∀ d, d < c.hs.length → ndR c s d ≤ ct (fun h => Q h s) d := by
  have h0 : ∀ (p : Nat), ct (fun _ => false) p = 0 := fun p => (sm_congr fun i _ => by simp).trans (sm_zero p)
  constructor
  · rintro ⟨P, h1, h2, h3⟩
    refine ⟨P, fun h hh => ?_, fun s hs d hd => ?_⟩
    · have a := h2 h (by omega)
      simp only [idF, if_pos hh] at a
      have e : ct (stT (fun _ _ => none) h) c.bs.length = 0 := h0 _
      rw [e] at a
      exact Int.le_trans (ct_mono (p := P h) hb) (by omega)
    · have a := h3 s (by omega) d (by omega)
      simp only [ndX, if_pos (And.intro hs hd)] at a
      have e : ct (fun h => stT (fun _ _ => none) h s) d = 0 := h0 _
      omega
  · rintro ⟨Q, h1, h2⟩
    refine ⟨fun h s => decide (s < c.bs.length) && (decide (h < c.hs.length) && Q h s), fun _ _ _ => rfl, fun h hh => ?_, fun s hs d hd => ?_⟩
    · show ct (fun s => decide (s < c.bs.length) && (decide (h < c.hs.length) && Q h s)) 12 ≤ _
      rw [ct_below _ hb]
      simp only [idF]
      have e : ct (stT (fun _ _ => none) h) c.bs.length = 0 := h0 _
      split
      · rename_i x
        have := h1 h x
        simp only [x, decide_true, Bool.true_and]
        show ct (Q h) c.bs.length ≤ _
        omega
      · rename_i x
        simp only [x, decide_false, Bool.false_and]
        rw [h0]; omega
    · simp only [ndX]
      split
      · rename_i x
        have e : ct (fun h => stT (fun _ _ => none) h s) d = 0 := h0 _
        have a := h2 s x.1 d x.2
        have b : ct (fun h => Q h s) d ≤ ct (fun h => decide (s < c.bs.length) && (decide (h < c.hs.length) && Q h s)) d := ct_le fun i hi hq => by simp [x.1, hq]; omega
        omega
      · exact ct_nonneg _ _
open Go.Hall
structure PS (c : Cv) (S : Nat → Nat → Option Bool) (h s : Nat) : Prop where
  some : ∀ a e, (S a e).isSome = true ↔ (a < h ∨ (a = h ∧ e < s)) ∧ e < c.bs.length
  feas : feasR c S
  hnd : ∀ a, a < 8 → 0 ≤ idF c S a
  tot : ∀ e, e < c.bs.length → ct (fun a => stT S a e) c.hs.length ≤ ndR c e (c.hs.length - 1)
  fst : ∀ Q, GoodP c Q → ∀ a e, (a < h ∨ (a = h ∧ e < s)) → e < c.bs.length → (∀ a' e', e' < c.bs.length → (a' < a ∨ (a' = a ∧ e' < e)) → Q a' e' = stT S a' e') → Q a e = true → stT S a e = true
theorem PS.start {c : Cv} {n : Nat} (hc : c.ok n) (hf : feasR c (fun _ _ => none)) : PS c (fun _ _ => none) 0 0 := by
  have h0 : ∀ (p : Nat), ct (fun _ => false) p = 0 := fun p => (sm_congr fun i _ => by simp).trans (sm_zero p)
  refine ⟨fun a e => by simp, hf, fun a ha => ?_, fun e he => ?_, fun Q hQ a e h => by omega⟩
  · simp only [idF]
    have e : ct (stT (fun _ _ => none) a) c.bs.length = 0 := h0 _
    split
    · rename_i x
      have := hc.hok a x
      rw [← Cv.h_eq x] at this
      have h2 := this.2.2.1
      simp only [handsF]
      split <;> omega
    · omega
  · have e2 : ct (fun a => stT (fun _ _ => none) a e) c.hs.length = 0 := h0 _
    have h8 := hc.hours
    have := (ndF_bd hc he (h := c.hs.length - 1 + 1) (by omega)).1
    simp only [ndR]; omega
theorem PS.row {c : Cv} {S : Nat → Nat → Option Bool} {h : Nat} (hp : PS c S h c.bs.length) : PS c S (h + 1) 0 :=
  ⟨fun a e => by rw [hp.some]; omega, hp.feas, hp.hnd, hp.tot, fun Q hQ a e h1 h2 h3 h4 => hp.fst Q hQ a e (by omega) h2 h3 h4⟩
theorem PS.none {c : Cv} {S : Nat → Nat → Option Bool} {h s : Nat} (hp : PS c S h s) {a e : Nat} (he : ¬ ((a < h ∨ (a = h ∧ e < s)) ∧ e < c.bs.length)) : S a e = .none := by
  cases hs : S a e with
  | none => rfl
  | some b => exact absurd ((hp.some a e).1 (by rw [hs]; rfl)) he
theorem stT_some {S : Nat → Nat → Option Bool} {a e : Nat} (h : stT S a e = true) : (S a e).isSome = true := by
  simp only [stT] at h
  cases hs : S a e with
  | none => rw [hs] at h; cases h
  | some b => rfl
theorem PS.settle {c : Cv} {n : Nat} (hc : c.ok n) (hb : c.bs.length ≤ 12) {S : Nat → Nat → Option Bool} {h s : Nat} (hp : PS c S h s) (hh : h < c.hs.length) (hs : s < c.bs.length) {r : Bool}
    (hr : r = true ↔ 0 < idF c S h ∧ ct (fun a => stT S a s) (c.hs.length - 1) < ndR c s (c.hs.length - 1) ∧ feasR c (setS S h s true)) : PS c (setS S h s r) h (s + 1) := by
  have h8 := hc.hours
  have hn : ∀ a, h ≤ a → S a s = .none := fun a ha => hp.none (by omega)
  have h0 := hn h (Nat.le_refl _)
  have hm : ∀ d, d < c.hs.length → ndR c s d ≤ ndR c s (c.hs.length - 1) := by
    have : ∀ d e, d ≤ e → ndR c s d ≤ ndR c s e := fun d e hde => by
      induction e with
      | zero =>
        obtain rfl : d = 0 := by omega
        exact Int.le_refl _
      | succ e ih =>
        by_cases hd : d = e + 1
        · subst hd; exact Int.le_refl _
        · have a1 := ih (by omega)
          have a2 := ndF_mono c s (e + 1)
          simp only [ndR] at a1 ⊢
          omega
    exact fun d hd => this d _ (by omega)
  have old : ∀ {a e}, ¬ (a = h ∧ e = s) → stT (setS S h s r) a e = stT S a e := fun {a e} hx => by rw [stT_put]; dsimp only; rw [if_neg hx]
  refine ⟨fun a e => ?_, feas_settle hh hs hb h8.2 hn hm hp.feas hr, fun a ha => ?_, fun e he => ?_, fun Q hQ a e h1 h2 h3 h4 => ?_⟩
  · simp only [setS]
    split
    · rename_i x
      simp only [Option.isSome_some, true_iff]
      omega
    · rename_i x
      rw [hp.some]
      omega
  · rw [idF_put hh hs h0]
    have := hp.hnd a ha
    split
    · rename_i x
      have := (hr.1 x.2).1
      rw [x.1]; omega
    · omega
  · by_cases hes : e = s
    · subst hes
      cases r with
      | false => rw [stT_off h0]; exact hp.tot e he
      | true =>
        have a1 := (hr.1 rfl).2.1
        rw [stT_col h0]
        have e1 : ct (fun a => stT S a e) c.hs.length = ct (fun a => stT S a e) (c.hs.length - 1) + if stT S (c.hs.length - 1) e = true then 1 else 0 := by
          obtain ⟨m, hm2⟩ : ∃ m, c.hs.length = m + 1 := ⟨c.hs.length - 1, by omega⟩
          rw [hm2]; rfl
        have e2 : stT S (c.hs.length - 1) e = false := by simp [stT, hn _ (show h ≤ c.hs.length - 1 by omega)]
        rw [e2] at e1
        rw [if_pos hh]
        simp at e1
        omega
    · rw [stT_else r hes]; exact hp.tot e he
  · by_cases hx : a = h ∧ e = s
    · obtain ⟨rfl, rfl⟩ := hx
      cases r with
      | true => rw [stT_put]; simp
      | false =>
        exfalso
        have hQS : ∀ a' e', e' < c.bs.length → (a' < a ∨ (a' = a ∧ e' < e)) → Q a' e' = stT S a' e' := fun a' e' y1 y2 => by
          rw [h3 a' e' y1 y2, old (by omega)]
        have hSQ : ∀ a' e', stT S a' e' = true → Q a' e' = true := fun a' e' y => by
          have z := (hp.some a' e').1 (stT_some y)
          rw [hQS a' e' z.2 z.1]; exact y
        by_cases hl : ct (fun a => stT S a e) (c.hs.length - 1) < ndR c e (c.hs.length - 1)
        · have := feas_first (P := fun a' e' => decide (e' < c.bs.length) && (decide (a' < c.hs.length) && (Q a' e' && (S a' e').isNone))) hh hs hb h8.2 h0 hr rfl hl (fun a' e' y => by simp at y; simp [y]) (fun a' ha' => ?_) (fun e' he' d hd => ?_)
          · simp [hh, hs, h4, h0] at this
          · show ct (fun e' => decide (e' < c.bs.length) && (decide (a' < c.hs.length) && (Q a' e' && (S a' e').isNone))) 12 ≤ _
            rw [ct_below _ hb]
            simp only [idF]
            split
            · rename_i x
              have q1 := hQ.rows a' x
              have q2 : ct (fun e' => decide (a' < c.hs.length) && (Q a' e' && (S a' e').isNone)) c.bs.length + ct (stT S a') c.bs.length ≤ ct (Q a') c.bs.length := ct_split fun i _ => by
                refine ⟨fun y => ?_, hSQ a' i, fun y => ?_⟩
                · simp at y; exact y.2.1
                · simp only [Bool.and_eq_true] at y
                  have y2 := stT_some y.2
                  cases hsi : S a' i with
                  | none => rw [hsi] at y2; cases y2
                  | some b => rw [hsi] at y; exact absurd y.1.2.2 (by simp)
              omega
            · rename_i x
              refine Int.le_of_eq ((sm_congr fun i _ => ?_).trans (sm_zero _))
              simp [x]
          · simp only [ndX]
            split
            · rename_i x
              have q1 := hQ.needs e' x.1 d x.2
              have q2 : ct (fun a' => Q a' e') d ≤ ct (fun a' => stT S a' e') d + ct (fun a' => decide (e' < c.bs.length) && (decide (a' < c.hs.length) && (Q a' e' && (S a' e').isNone))) d := ct_cover fun i hi y => by
                cases hsi : S i e' with
                | none => right; simp [x.1, y, hsi]; omega
                | some b =>
                  left
                  have z := (hp.some i e').1 (by rw [hsi]; rfl)
                  rw [← hQS i e' z.2 z.1]; exact y
              omega
            · exact ct_nonneg _ _
        · have q1 := hQ.tot e hs
          have q2 := ct_less (p := fun a' => Q a' e) hh h4
          have q3 : ct (fun a' => stT S a' e) c.hs.length ≤ ct (fun i => Q i e && !decide (i = a)) c.hs.length := ct_le fun i _ y => by
            have z := hSQ i e y
            have z2 : i ≠ a := fun w => by rw [w] at y; simp [stT, h0] at y
            simp [z, z2]
          have q4 := ct_mono (p := fun a' => stT S a' e) (show c.hs.length - 1 ≤ c.hs.length by omega)
          omega
    · rw [old hx]
      exact hp.fst Q hQ a e (by omega) h2 (fun a' e' y1 y2 => by rw [h3 a' e' y1 y2, old (by omega)]) h4
theorem PS.good {c : Cv} {n : Nat} (hc : c.ok n) (hb : c.bs.length ≤ 12) {S : Nat → Nat → Option Bool} (hp : PS c S c.hs.length 0) : GoodP c (stT S) := by
  have h8 := hc.hours
  have hne : ∀ s, s < c.bs.length → ∀ d, d < c.hs.length → ndR c s d ≤ ct (fun h => stT S h s) d := fun s hs d hd => by
    obtain ⟨P, h1, _, h3⟩ := hp.feas
    have a := h3 s (by omega) d (by omega)
    simp only [ndX, if_pos (And.intro hs hd)] at a
    have e : ct (fun h => P h s) d = 0 := (sm_congr fun i hi => by
      refine if_neg fun hP => ?_
      have : (S i s).isNone = true := h1 i s hP
      have k := (hp.some i s).2 ⟨by omega, hs⟩
      cases hsi : S i s with
      | none => rw [hsi] at k; cases k
      | some b => rw [hsi] at this; cases this).trans (sm_zero d)
    omega
  refine ⟨fun h hh => ?_, hne, fun s hs => ?_⟩
  · have := hp.hnd h (by omega)
    simp only [idF, if_pos hh] at this
    omega
  · have a1 := hp.tot s hs
    have a2 := hne s hs (c.hs.length - 1) (by omega)
    have a3 := ct_mono (p := fun h => stT S h s) (show c.hs.length - 1 ≤ c.hs.length by omega)
    omega
def flL (p : Nat → Bool) (i : Nat) : List Int := ((List.range i).filter p).map fun (s : Nat) => (s : Int)
theorem flL_succ (p : Nat → Bool) (i : Nat) : flL p (i + 1) = if p i = true then flL p i ++ [(i : Int)] else flL p i := by
  simp only [flL, List.range_succ, List.filter_append, List.map_append]
  by_cases h : p i = true <;> simp [h]
theorem flL_mem {p : Nat → Bool} {i : Nat} {x : Int} : x ∈ flL p i ↔ ∃ s : Nat, s < i ∧ p s = true ∧ x = s := by
  simp only [flL, List.mem_map, List.mem_filter, List.mem_range]
  constructor
  · rintro ⟨s, ⟨h1, h2⟩, rfl⟩; exact ⟨s, h1, h2, rfl⟩
  · rintro ⟨s, h1, h2, rfl⟩; exact ⟨s, ⟨h1, h2⟩, rfl⟩
theorem flL_len (p : Nat → Bool) : ∀ i, ((flL p i).length : Int) = ct p i
  | 0 => rfl
  | i + 1 => by
    have ih := flL_len p i
    have e : ct p (i + 1) = ct p i + if p i = true then 1 else 0 := rfl
    rw [flL_succ, e, ← ih]
    split <;> simp
theorem flL_le (p : Nat → Bool) (i : Nat) : (flL p i).length ≤ i := by
  have := flL_len p i
  have := ct_top p i
  omega
theorem flL_ok (p : Nat → Bool) {n : Nat} : ∀ {i : Nat}, i ≤ n → okL n (flL p i)
  | 0, _ => fun k hk => by simp [flL] at hk
  | i + 1, h => by
    have ih := flL_ok p (n := n) (i := i) (by omega)
    rw [flL_succ]
    split
    · refine okL_snoc ih (by omega) (by omega) fun y hy => ?_
      obtain ⟨s, h1, _, rfl⟩ := flL_mem.1 hy
      omega
    · exact ih
theorem flL_congr {p q : Nat → Bool} {n : Nat} (h : ∀ i, i < n → p i = q i) : flL p n = flL q n := by
  simp only [flL]
  congr 1
  apply List.filter_congr
  intro x hx
  exact h x (List.mem_range.1 hx)
theorem inP_fl {p : Nat → Nat → Bool} {n h s : Nat} (hs : s < n) : inP (fun h => flL (p h) n) h s = p h s := by
  simp only [inP, flL_mem]
  cases hp : p h s with
  | true => simp; exact ⟨s, hs, hp, rfl⟩
  | false =>
    simp
    intro x _ hx e
    obtain rfl : s = x := by omega
    rw [hp] at hx; cases hx
theorem GoodP.congr {c : Cv} {P Q : Nat → Nat → Bool} (h : GoodP c P) (e : ∀ a s, s < c.bs.length → Q a s = P a s) : GoodP c Q :=
  ⟨fun a ha => by rw [ct_congr (q := P a) fun i hi => e a i hi]; exact h.rows a ha, fun s hs d hd => by rw [ct_congr (q := fun a => P a s) fun i _ => e i s hs]; exact h.needs s hs d hd, fun s hs => by rw [ct_congr (q := fun a => P a s) fun i _ => e i s hs]; exact h.tot s hs⟩
theorem GoodP.okPl {c : Cv} {P : Nat → Nat → Bool} (h : GoodP c P) : okPl c (fun a => flL (P a) c.bs.length) := fun a ha => ⟨by rw [flL_len]; exact h.rows a ha, flL_ok _ (Nat.le_refl _)⟩
structure BestP (c : Cv) (L : Nat → List Int) : Prop where
  ok : okPl c L
  good : GoodP c (inP L)
  fst : ∀ Q, GoodP c Q → ∀ a e, a < c.hs.length → e < c.bs.length → (∀ a' e', e' < c.bs.length → (a' < a ∨ (a' = a ∧ e' < e)) → Q a' e' = inP L a' e') → Q a e = true → inP L a e = true
theorem PS.best {c : Cv} {n : Nat} (hc : c.ok n) (hb : c.bs.length ≤ 12) {S : Nat → Nat → Option Bool} (hp : PS c S c.hs.length 0) : BestP c (fun a => flL (stT S a) c.bs.length) := by
  have hg := hp.good hc hb
  have e : ∀ a s, s < c.bs.length → inP (fun a => flL (stT S a) c.bs.length) a s = stT S a s := fun a s hs => inP_fl hs
  refine ⟨hg.okPl, hg.congr e, fun Q hQ a s ha hs h1 h2 => ?_⟩
  rw [e a s hs]
  exact hp.fst Q hQ a s (.inl ha) hs (fun a' e' y1 y2 => by rw [h1 a' e' y1 y2, e a' e' y1]) h2
open Go.Hall
theorem mS_none : mS (fun _ _ => none) = fun _ => none := by funext k; simp [mS]
theorem id0 {c : Cv} {n : Nat} (hc : c.ok n) (a : Nat) : 0 ≤ idF c (fun _ _ => none) a := by
  have h0 : ∀ (p : Nat), ct (fun _ => false) p = 0 := fun p => (sm_congr fun i _ => by simp).trans (sm_zero p)
  simp only [idF]
  have e : ct (stT (fun _ _ => none) a) c.bs.length = 0 := h0 _
  split
  · rename_i x
    have := hc.hok a x
    rw [← Cv.h_eq x] at this
    have h2 := this.2.2.1
    simp only [handsF]
    split <;> omega
  · omega
theorem Rows.chg {H H' : Heap} {box : AObj} {n : Nat} {L : Nat → List Int} {vs : Nat → AV} {G : Heap} (h : Rows H box n L vs G) (hl : H'.length = H.length) : Rows H' box n L vs G := by
  refine ⟨fun k hk => (h.at_ k hk).keep fun i hi => ?_, fun k hk i hi => by rw [hl]; exact h.lo k hk i hi, h.ne⟩
  have := h.lo k hk i hi
  rw [List.getElem?_append_right (by omega), List.getElem?_append_right (by omega), hl]
structure PB (H : Heap) (c : Cv) (p : Plc) (nid sid : Nat) (bx : List AV) (B : AObj → Heap) : Prop where
  pre : ∀ o, ∃ X, B o = H ++ X
  len : ∀ o, (B o).length = sid + 1
  at_ : ∀ o, (B o)[sid]? = some o
  set : ∀ o o', (B o).set sid o' = B o'
  box : ∀ o, rd (B o) H.length 0 10 = some bx
  cv : ∀ o, CvAt (B o) c p
  go : ∀ o, GoAt (B o) (.slice nid 0 c.bs.length 1 false) c.hs.length (ndR c) c.bs.length
  sge : H.length < sid
set_option maxHeartbeats 4000000 in
theorem c_PlanV (H : Heap) (l : List Str) (c : Cv) (p : Plc) (hp : CvAt H c p) (ht : TrAt H l p) (hc : c.ok l.length) (hv : validL l) :
    ACalls Try.prog F.qae [.agg (c.av p)] H (fun v h' => (∃ (pl : AV) (G : Heap) (L : Nat → List Int), v = .tuple [pl, .int .i64 0] ∧ h' = H ++ G ∧ PlAt h' pl c.hs.length L ∧ BestP c L) ∨ (StuckR c (fun _ _ => none) ∧ v = .tuple [.nilslice, .int .i64 8] ∧ h' = H)) := by
  have hp1 := hp.t
  have hp2 := rd_lt hp.b
  have hp3 := rd_lt hp.h
  have h12 := hv.1
  have hlen := hc.len
  have h8 := hc.hours
  have k0 := fun G => c_iCheck (H ++ G) l c p (hp.app G) (ht.app G) (by omega) (by omega) (by omega)
  have kn := fun G => c_needs (H ++ G) l c p (hp.app G) hc hv
  have hgo := fun G => goAt_of (H ++ G) c.hs.length (ndR c) c.bs.length []
  simp only [Cv.av] at k0 kn ⊢
  refine acalls_of ok_qae rfl fun hcl => ?_
  unfold ac_qae zo
  simp only [argsT, Nat.zero_add, Nat.reduceAdd]
  repeat (first|(with_reducible first|apply X1|apply X2|apply X8)|((with_reducible apply e_end);(simp;exact Rz))|((with_reducible apply O1);rfl;(simp (disch:=omega);exact Rz);exact Rz;(focus (first|(simp;done)|omega|(simp;omega)))))
  (with_reducible apply e_call); (simp; exact Rz); exact k0 _
  rintro _ _ ⟨rfl, e, rfl, he⟩
  obtain rfl : e = 0 := by
    rcases he with h | h | h
    · exact h.2.2
    · exact absurd hv h.1
    · exact absurd hc h.2.1
  repeat (first|(with_reducible first|apply X1|apply X2|apply X5|apply X8|apply Y9)|((with_reducible apply e_end);(simp;exact Rz))|((first|((with_reducible apply O1);rfl)|((with_reducible apply P1);rfl)|((with_reducible apply P2);rfl));(simp (disch:=omega);exact Rz);exact Rz;(focus (first|(simp;done)|omega|(simp;omega))))|((with_reducible apply W3);(simp (disch:=omega);exact Rz)))
  (with_reducible apply d_call_); (simp; exact Rz); exact kn _; (focus (first | (simp; done) | (simp; omega)))
  repeat (first|(with_reducible first|apply X1|apply X2|apply X8)|((with_reducible apply d_end);(simp;exact Rz))|((first|((with_reducible apply O1);rfl)|((with_reducible apply P1);rfl)|((with_reducible apply P3);rfl)|((with_reducible apply P4);rfl));(simp (disch:=omega);exact Rz);exact Rz;(focus (first|(simp;done)|omega|(simp;omega)))))
  have hgo := hgo [.cells [.slice p.tid p.toff p.tn 9 p.tex, .slice p.bid p.boff c.bs.length 3 p.bex, .slice p.hid p.hoff c.hs.length 5 p.hex, .int .i64 c.w1, .int .i64 c.w2, .int .i64 c.y1, .int .i64 c.y2, .int .i64 c.rate, .int .i64 c.lim, .int .i64 c.base] true]
  obtain ⟨B, hB⟩ : ∃ B : AObj → Heap, ∀ o, B o = H ++ (.cells [.slice p.tid p.toff p.tn 9 p.tex, .slice p.bid p.boff c.bs.length 3 p.bex, .slice p.hid p.hoff c.hs.length 5 p.hex, .int .i64 c.w1, .int .i64 c.w2, .int .i64 c.y1, .int .i64 c.y2, .int .i64 c.rate, .int .i64 c.lim, .int .i64 c.base] true :: (goO (H.length + 1) c.hs.length (ndR c) c.bs.length [] ++ [o])) := ⟨_, fun _ => rfl⟩
  obtain ⟨nid, hnid⟩ : ∃ n, n = H.length + 1 := ⟨_, rfl⟩
  obtain ⟨sid, hsid⟩ : ∃ n, n = H.length + ((goO (H.length + 1) c.hs.length (ndR c) c.bs.length []).length + 1) := ⟨_, rfl⟩
  have hPB : PB H c p nid sid [AV.slice p.tid p.toff p.tn 9 p.tex, .slice p.bid p.boff c.bs.length 3 p.bex, .slice p.hid p.hoff c.hs.length 5 p.hex, .int .i64 c.w1, .int .i64 c.w2, .int .i64 c.y1, .int .i64 c.y2, .int .i64 c.rate, .int .i64 c.lim, .int .i64 c.base] B := by
    have hBl : ∀ o, (B o).length = sid + 1 := fun o => by rw [hB, hsid]; simp; omega
    have hat : ∀ o, B o = (H ++ (.cells [.slice p.tid p.toff p.tn 9 p.tex, .slice p.bid p.boff c.bs.length 3 p.bex, .slice p.hid p.hoff c.hs.length 5 p.hex, .int .i64 c.w1, .int .i64 c.w2, .int .i64 c.y1, .int .i64 c.y2, .int .i64 c.rate, .int .i64 c.lim, .int .i64 c.base] true :: goO (H.length + 1) c.hs.length (ndR c) c.bs.length [])) ++ [o] := fun o => by rw [hB]; simp
    have hll : (H ++ (.cells [.slice p.tid p.toff p.tn 9 p.tex, .slice p.bid p.boff c.bs.length 3 p.bex, .slice p.hid p.hoff c.hs.length 5 p.hex, .int .i64 c.w1, .int .i64 c.w2, .int .i64 c.y1, .int .i64 c.y2, .int .i64 c.rate, .int .i64 c.lim, .int .i64 c.base] true :: goO (H.length + 1) c.hs.length (ndR c) c.bs.length [])).length = sid := by rw [hsid]; simp
    refine ⟨fun o => ⟨_, hB o⟩, hBl, fun o => ?_, fun o o' => ?_, fun o => ?_, fun o => ?_, fun o => ?_, by omega⟩
    · rw [hat, ← hll]; simp
    · rw [hat, hat, ← hll]; simp
    · rw [hB]; simp
    · rw [hB]; exact hp.app _
    · have := hgo.app [o]
      rw [hB, hnid]; simpa using this
  have e0 : ∀ Y, H ++ .cells [.slice p.tid p.toff p.tn 9 p.tex, .slice p.bid p.boff c.bs.length 3 p.bex, .slice p.hid p.hoff c.hs.length 5 p.hex, .int .i64 c.w1, .int .i64 c.w2, .int .i64 c.y1, .int .i64 c.y2, .int .i64 c.rate, .int .i64 c.lim, .int .i64 c.base] true :: (goO (H.length + 1) c.hs.length (ndR c) c.bs.length [] ++ .other (OObj.map [] [] 0) :: Y) = B (.other (OObj.map [] [] 0)) ++ Y := fun Y => by rw [hB]; simp
  have hm0 : PMap (.other (OObj.map [] [] 0)) (mS fun _ _ => none) := by rw [mS_none]; exact PMap.nil
  rw [e0, ← hsid, ← hnid]
  have hsl : H.length < sid := hPB.sge
  have hnl : nid < sid := by rw [hnid, hsid]; simp [goO]
  generalize AObj.other (OObj.map [] [] 0) = o0 at hm0 ⊢
  have kf := fun G => c_finishes (B o0 ++ G) c p ((hPB.cv o0).app G) _ hc (by omega) nid ((hPB.go o0).app G) sid (fun _ _ => none) ⟨o0, at_old G (hPB.at_ o0), hm0⟩ fun a _ => id0 hc a
  have ks := fun o S G (hm : PMap o (mS S)) => c_settle (B o ++ G) c p ((hPB.cv o).app G) _ hc (by omega) nid ((hPB.go o).app G) sid S ⟨o, at_old G (hPB.at_ o), hm⟩
  simp only [rosV, Cv.av, List.cons_append, List.nil_append] at kf ks
  have hBl := fun o => hPB.len o
  have hbx := fun (o : AObj) (Y : Heap) => (rd_old Y (show H.length < (B o).length by rw [hBl]; omega) 0 10).trans (hPB.box o)
  have hb1 := fun o Y => rd_sub' (hbx o Y) 1 1 (by omega)
  have hb2 := fun o Y => rd_sub' (hbx o Y) 2 1 (by omega)
  simp only [List.drop_succ_cons, List.drop_zero, List.take_succ_cons, List.take_zero, Nat.zero_add] at hb1 hb2
  have e1 : H.length + ((goO nid c.hs.length (ndR c) c.bs.length []).length + 1 + 1) = sid + 1 := by rw [hsid, hnid]; omega
  rw [e1]
  (with_reducible apply e_call); (simp; exact Rz); exact kf _
  rintro _ _ ⟨r, rfl, hr, hst, rfl⟩
  obtain ⟨X0, hX0⟩ := hPB.pre o0
  cases r with
  | false =>
    repeat (first|(with_reducible first|apply X1|apply X2|apply X3|apply X8|apply X9)|((with_reducible apply e_end);(simp;exact Rz))|((with_reducible apply O1);rfl;(simp (disch:=omega);exact Rz);exact Rz;(focus (first|(simp;done)|omega|(simp;omega))))|((with_reducible apply Z9);(simp (disch:=omega);exact Rz)))
    rw [hX0, List.append_assoc]
    exact q_drop (.inr rfl) (by simp; exact Rz) (by simp [AV.sc, scL]) (.inr ⟨hst rfl, rfl, rfl⟩)
  | true =>
    have hP0 := PS.start hc (hr.1 rfl)
    have hbr : ∀ o Y, rd (B o ++ (.cells [AV.slice p.tid p.toff p.tn 9 p.tex, .slice p.bid p.boff c.bs.length 3 p.bex, .slice p.hid p.hoff c.hs.length 5 p.hex, .int .i64 c.w1, .int .i64 c.w2, .int .i64 c.y1, .int .i64 c.y2, .int .i64 c.rate, .int .i64 c.lim, .int .i64 c.base, .slice nid 0 c.bs.length 1 false, .map sid] true) :: Y) (sid + 1) 0 12 = some [AV.slice p.tid p.toff p.tn 9 p.tex, .slice p.bid p.boff c.bs.length 3 p.bex, .slice p.hid p.hoff c.hs.length 5 p.hex, .int .i64 c.w1, .int .i64 c.w2, .int .i64 c.y1, .int .i64 c.y2, .int .i64 c.rate, .int .i64 c.lim, .int .i64 c.base, .slice nid 0 c.bs.length 1 false, .map sid] := fun o Y => by rw [← hBl o]; simp
    obtain ⟨rx, hrx⟩ : ∃ rx, rx = (.cells [AV.slice p.tid p.toff p.tn 9 p.tex, .slice p.bid p.boff c.bs.length 3 p.bex, .slice p.hid p.hoff c.hs.length 5 p.hex, .int .i64 c.w1, .int .i64 c.w2, .int .i64 c.y1, .int .i64 c.y2, .int .i64 c.rate, .int .i64 c.lim, .int .i64 c.base, .slice nid 0 c.bs.length 1 false, .map sid] true : AObj) := ⟨_, rfl⟩
    rw [← hrx] at hbr ⊢
    repeat (first|(with_reducible first|apply X1|apply X2|apply X5|apply X6|apply X8)|((with_reducible apply e_end);(simp;exact Rz))|((with_reducible apply O1);rfl;(simp (disch:=omega) [hb2];exact Rz);exact Rz;(focus (first|(simp;done)|omega|(simp;omega))))|((with_reducible apply W3);(simp (disch:=omega) [hb2];exact Rz)))
    rw [rwV_nil]
    refine e_loop (ι := { x : Nat × AObj × (Nat → Nat → Option Bool) × (Nat → AV) × Heap // x.1 ≤ c.hs.length ∧ PMap x.2.1 (mS x.2.2.1) ∧ PS c x.2.2.1 x.1 0 ∧ Rows (B x.2.1) rx c.hs.length (fun k => if k < x.1 then flL (stT x.2.2.1 k) c.bs.length else []) x.2.2.2.1 x.2.2.2.2 })
      (fun x => [(1, .ptr H.length 0), (5, .ptr (sid + 1) 0), (6, .slice (sid + 2) 0 c.hs.length 1 true), (30, .int .i64 c.hs.length), (31, .int .i64 x.1.1)])
      (fun x => B x.1.2.1 ++ rx :: AObj.cells (rwV x.1.2.2.2.1 c.hs.length) true :: x.1.2.2.2.2) (fun x => c.hs.length - x.1.1) ⟨(0, o0, fun _ _ => none, fun _ => .nilslice, []), by simp, hm0, hP0, Rows.nil _ _ _ _ (fun k _ => by simp)⟩ ?_ ?_
    · refine .inl ?_
      dsimp only
      rw [hBl]
      rfl
    · rintro ⟨⟨h, o, S, vs, G⟩, hi, hm, hP, hR⟩
      dsimp only at hi hm hP hR ⊢
      by_cases hlt : h < c.hs.length
      · have hlt2 : (h : Int) < c.hs.length := by omega
        repeat (first|(with_reducible first|apply X1|apply X2|apply X5|apply X6|apply X8)|((with_reducible apply e_end);(simp;exact Rz))|((with_reducible apply O1);rfl;(simp (disch:=omega) [hlt2, hb1];exact Rz);exact Rz;(focus (first|(simp;done)|omega|(simp;omega))))|((with_reducible apply Z9);(simp (disch:=omega) [hlt2, hb1];exact Rz)))
        refine e_loop (ι := { x : Nat × AObj × (Nat → Nat → Option Bool) × (Nat → AV) × Heap // x.1 ≤ c.bs.length ∧ PMap x.2.1 (mS x.2.2.1) ∧ PS c x.2.2.1 h x.1 ∧ Rows (B x.2.1) rx c.hs.length (fun k => if k < h then flL (stT x.2.2.1 k) c.bs.length else if k = h then flL (stT x.2.2.1 h) x.1 else []) x.2.2.2.1 x.2.2.2.2 })
          (fun x => [(1, .ptr H.length 0), (5, .ptr (sid + 1) 0), (6, .slice (sid + 2) 0 c.hs.length 1 true), (7, .int .i64 h), (30, .int .i64 c.hs.length), (31, .int .i64 h), (36, .int .i64 c.bs.length), (37, .int .i64 x.1.1)])
          (fun x => B x.1.2.1 ++ rx :: AObj.cells (rwV x.1.2.2.2.1 c.hs.length) true :: x.1.2.2.2.2) (fun x => c.bs.length - x.1.1) ⟨(0, o, S, vs, G), by simp, hm, hP, hR.congr fun k _ => by simp [flL]⟩ ?_ ?_
        · exact .inl rfl
        · clear hm hP hR o S vs G
          rintro ⟨⟨i, o, S, vs, G⟩, hi, hm, hP, hR⟩
          dsimp only at hi hm hP hR ⊢
          by_cases hil : i < c.bs.length
          · have hil2 : (i : Int) < c.bs.length := by omega
            repeat (first|(with_reducible first|apply X1|apply X2|apply X5|apply X6|apply X8)|((with_reducible apply e_end);(simp;exact Rz))|((with_reducible apply O1);rfl;(simp (disch:=omega) [hil2, hbr];exact Rz);exact Rz;(focus (first|(simp;done)|omega|(simp;omega))))|((with_reducible apply Z9);(simp (disch:=omega) [hil2, hbr];exact Rz)))
            (with_reducible apply e_call); (simp; exact Rz); exact ks o S _ hm hP.hnd h i hlt hil (hP.none (by omega))
            rintro _ _ ⟨r, o', rfl, rfl, hm', hr⟩
            have hP' := hP.settle hc (by omega) hlt hil hr
            have hR' := hR.chg (H' := B o') (by rw [hBl, hBl])
            rw [set_old (by rw [hBl]; omega), hPB.set]
            have hst : ∀ k s, k ≠ h ∨ s ≠ i → stT (setS S h i r) k s = stT S k s := fun k s hx => by rw [stT_put]; dsimp only; rw [if_neg (by omega)]
            have hrowk : ∀ k, k ≠ h → flL (stT (setS S h i r) k) c.bs.length = flL (stT S k) c.bs.length := fun k hk => flL_congr fun s _ => hst k s (.inl hk)
            have hrowh : flL (stT (setS S h i r) h) i = flL (stT S h) i := flL_congr fun s hs => hst h s (.inr (by omega))
            have hsi : stT (setS S h i r) h i = r := by rw [stT_put]; simp
            cases r with
            | false =>
              repeat (first|(with_reducible first|apply X2|apply X5|apply X8|apply Y2)|((with_reducible apply e_end);(simp;exact Rz))|((with_reducible apply O1);rfl;(simp (disch:=omega);exact Rz);exact Rz;(focus (first|(simp;done)|omega|(simp;omega))))|((with_reducible apply W3);(simp (disch:=omega);exact Rz)))
              refine q_again ⟨(i + 1, o', setS S h i false, vs, G), hil, hm', hP', hR'.congr fun k hk => ?_⟩ (by dsimp only; omega) (.inl (by simp))
              by_cases h1 : k < h
              · simp only [h1, if_true]; exact hrowk k (by omega)
              · by_cases h2 : k = h
                · simp only [h2, Nat.lt_irrefl, if_false, if_true, flL_succ, hsi, hrowh, Bool.false_eq_true]
                · simp only [h1, h2, if_false]
            | true =>
              have hrw := rwV_at vs hlt
              have hrl := rwV_length vs c.hs.length
              have hle1 : h + 1 ≤ c.hs.length := by omega
              have hRh := hR'.at_ h hlt
              simp only [Nat.lt_irrefl, if_false, if_true] at hRh
              have hlm := flL_le (stT S h) i
              have hBl' := hBl o'
              have e3 : sid + 2 = (B o').length + 1 := by rw [hBl]
              rw [e3]
              repeat (first|(with_reducible first|apply X2|apply X8)|((with_reducible apply e_end);(simp;exact Rz))|((with_reducible apply O1);rfl;(simp (disch:=omega) [hlt, hlt2, hrw, hrl, hle1];exact Rz);exact Rz;(focus (first|(simp;done)|omega|(simp;omega))))|((with_reducible apply Z9);(simp (disch:=omega) [hlt, hlt2, hrw, hrl, hle1];exact Rz)))
              refine e_appA (A := B o' ++ [rx, .cells (rwV vs c.hs.length) true]) (G := G ++ [.cells [.int .i64 (i : Int)] true])
                (cs := iv (flL (stT S h) i)) (n := (flL (stT S h) i).length) (m := 1) (new := [.int .i64 (i : Int)]) (by simp) (by simp; exact Rz) (by simp; exact Rz) (by have := hRh.app [.cells [.int .i64 (i : Int)] true]; simpa using this) (fun k hk => by have := hR'.lo h hlt k hk; simp; omega) (by simp) (by simp) (by omega) (by omega) ?_
              intro G2 v2 e3 e4 e5 e6 e7
              simp only [List.append_assoc, List.cons_append, List.nil_append] at e3 e4 e5 e6 e7 ⊢
              have e3' := e3
              obtain ⟨_, ⟨_, h0⟩ | ⟨id2, _, rfl, hh2⟩⟩ := e3'
              · omega
              have hput := rwV_put vs hlt (.slice id2 0 ((flL (stT S h) i).length + 1) 1 false)
              have hid2 : (B o').length + 2 ≤ id2 := by have := e4 id2 rfl; simpa using this
              have hid3 := e6 id2 rfl
              simp only [List.length_append, List.length_cons, List.length_nil] at hid3
              repeat (first|(with_reducible first|apply X2|apply X8|apply Y2)|((with_reducible apply e_end);(simp;exact Rz))|((first|((with_reducible apply O1);rfl)|((with_reducible apply O2);rfl));(simp (disch:=omega) [hlt, hlt2, hrl, hle1, -splice, hput];exact Rz);exact Rz;(focus (first|(simp;done)|omega|(simp;omega)))))
              refine q_again ⟨(i + 1, o', setS S h i true, updV vs h (.slice id2 0 ((flL (stT S h) i).length + 1) 1 false), G2), hil, hm', hP', ?_⟩ (by dsimp only; omega) (.inl (by simp [hBl]))
              have old : ∀ k, k < c.hs.length → ∀ i, isId (vs k) i → i < (B o').length + (G.length + 2) := fun k hk i hi => by
                have := (hR'.at_ k hk).l.lt hi
                simp at this; omega
              refine ⟨fun k hk => ?_, fun k hk i hi => ?_, fun k j hk hj hne i hi hi2 => ?_⟩
              · by_cases hkh : k = h
                · subst hkh
                  simp only [updV, if_true, Nat.lt_irrefl, if_false, flL_succ, hsi, hrowh, iv_app, List.length_append]
                  refine e3.keep fun i hi => get3 ?_
                  have : id2 = i := hi
                  omega
                · simp only [updV, if_neg hkh]
                  have := hR'.at_ k hk
                  simp only [if_neg hkh] at this
                  rw [hrowk k hkh]
                  refine this.keep fun q hq => ?_
                  have l1 := hR'.lo k hk q hq
                  have l2 := old k hk q hq
                  have l3 := hR'.ne k h hk hlt hkh q hq
                  rw [get3 (b' := AObj.cells (rwV vs c.hs.length) true) l1, e5 q (by simp; omega) l3, get4 l2]
              · by_cases hkh : k = h
                · simp only [updV, if_pos hkh] at hi
                  have : id2 = i := hi
                  show (B o').length + 2 ≤ i
                  omega
                · simp only [updV, if_neg hkh] at hi
                  exact hR'.lo k hk i hi
              · by_cases hkh : k = h
                · by_cases hjh : j = h
                  · omega
                  · simp only [updV, if_pos hkh, if_neg hjh] at hi hi2
                    have : id2 = i := hi
                    have := old j hj i hi2
                    omega
                · by_cases hjh : j = h
                  · simp only [updV, if_neg hkh, if_pos hjh] at hi hi2
                    have : id2 = i := hi2
                    have := old k hk i hi
                    omega
                  · simp only [updV, if_neg hkh, if_neg hjh] at hi hi2
                    exact hR'.ne k j hk hj hne i hi hi2
          · have hil2 : ¬ (i : Int) < c.bs.length := by omega
            obtain rfl : i = c.bs.length := by omega
            repeat (first|(with_reducible first|apply X1|apply X2|apply X4|apply X8|apply Y1|apply Y2|apply Y4|apply Y6)|((with_reducible apply e_end);(simp;exact Rz))|((with_reducible apply O1);rfl;(simp (disch:=omega) [hil2];exact Rz);exact Rz;(focus (first|(simp;done)|omega|(simp;omega))))|((with_reducible apply W3);(simp (disch:=omega) [hil2];exact Rz)))
            refine q_again ⟨(h + 1, o, S, vs, G), hlt, hm, hP.row, hR.congr fun k hk => ?_⟩ (by dsimp only; omega) (.inl (by simp))
            by_cases h1 : k < h
            · simp [h1, show k < h + 1 by omega]
            · by_cases h2 : k = h
              · simp [h2]
              · simp [h1, h2, show ¬ k < h + 1 by omega]
      · have hlt2 : ¬ (h : Int) < c.hs.length := by omega
        obtain rfl : h = c.hs.length := by omega
        repeat (first|(with_reducible first|apply X1|apply X2|apply X3|apply X4|apply X8|apply Y1|apply Y4|apply Y6)|((with_reducible apply e_end);(simp;exact Rz))|((with_reducible apply O1);rfl;(simp (disch:=omega) [hlt2];exact Rz);exact Rz;(focus (first|(simp;done)|omega|(simp;omega))))|((with_reducible apply W3);(simp (disch:=omega) [hlt2];exact Rz)))
        obtain ⟨X1, hX1⟩ := hPB.pre o
        have hpl : PlAt (B o ++ rx :: AObj.cells (rwV vs c.hs.length) true :: G) (.slice (sid + 2) 0 c.hs.length 1 true) c.hs.length (fun k => flL (stT S k) c.bs.length) := by
          refine ⟨sid + 2, 0, true, vs, rfl, ?_, fun k hk => ?_⟩
          · have := rwV_length vs c.hs.length
            have e3 : sid + 2 = (B o).length + 1 := by rw [hBl]
            rw [e3]
            simp only [rd_new, rd_succ, rd_zero, this, Nat.mul_one, Nat.zero_add, Nat.le_refl, if_true, List.drop_zero]
            rw [List.take_of_length_le (by omega)]; rfl
          · have := (hR.at_ k hk).l.r
            simp only [hk, if_true] at this
            exact this
        exact q_stay (.inr rfl) (by simp; exact Rz) (.inl ⟨_, X1 ++ rx :: AObj.cells (rwV vs c.hs.length) true :: G, _, rfl, by rw [hX1, List.append_assoc], hpl, hP.best hc (by omega)⟩)
open Go.Hall
theorem ex_bits (f : Nat → Bool) : ∀ k, ∃ n, n < 2 ^ k ∧ ∀ h, n.testBit h = (decide (h < k) && f h)
  | 0 => ⟨0, by simp, fun h => by simp⟩
  | k + 1 => by
    obtain ⟨n, h1, h2⟩ := ex_bits f k
    have h3 : 2 ^ (k + 1) = 2 ^ k + 2 ^ k := by rw [Nat.pow_succ]; omega
    cases hf : f k with
    | false =>
      refine ⟨n, by omega, fun h => ?_⟩
      rw [h2]
      by_cases e : h = k
      · subst e; simp [hf]
      · have : (h < k) ↔ (h < k + 1) := by omega
        simp [this]
    | true =>
      refine ⟨2 ^ k + n, by omega, fun h => ?_⟩
      rcases Nat.lt_trichotomy h k with e | e | e
      · rw [Nat.testBit_two_pow_add_gt e, h2]; simp [e, show h < k + 1 by omega]
      · subst e
        rw [Nat.testBit_two_pow_add_eq, h2]; simp [hf]
      · have h4 : 2 ^ (k + 1) ≤ 2 ^ h := Nat.pow_le_pow_right (by omega) (by omega)
        rw [Nat.testBit_lt_two_pow (by omega)]
        simp [show ¬ h < k + 1 by omega]
theorem bit_lt {set last h : Nat} (hs : set < 2 ^ last) (hb : set.testBit h = true) : h < last := by
  rcases Nat.lt_or_ge h last with e | e
  · exact e
  · have : 2 ^ last ≤ 2 ^ h := Nat.pow_le_pow_right (by omega) e
    rw [Nat.testBit_lt_two_pow (by omega)] at hb; cases hb
theorem shL_mem {c : Cv} {last x : Nat} : ∀ {k : Nat}, x ∈ shL c last k ↔ x < k ∧ shB c last x = true
  | 0 => by simp [shL]
  | k + 1 => by
    simp only [shL, List.mem_append, shL_mem (k := k)]
    constructor
    · rintro (h | h)
      · exact ⟨by omega, h.2⟩
      · split at h
        · simp at h; subst h; exact ⟨by omega, ‹_›⟩
        · simp at h
    · rintro ⟨h1, h2⟩
      by_cases e : x = k
      · subst e; right; simp [h2]
      · exact .inl ⟨by omega, h2⟩
theorem lackT_congr {n1 n2 : Nat → Int} {c1 c2 : Nat → Bool} : ∀ {m : Nat}, (∀ i, i < m → n1 i = n2 i) → (∀ i, i + 1 < m → c1 i = c2 i) → lackT n1 c1 m = lackT n2 c2 m
  | 0, _, _ => rfl
  | m + 1, h1, h2 => by
    simp only [lackT]
    rw [lackT_congr (m := m) (fun i hi => h1 i (by omega)) (fun i hi => h2 i (by omega)), h1 m (by omega), ct_congr (q := c2) fun i hi => h2 i (by omega)]
theorem lackT_mono {n1 n2 : Nat → Int} {c1 c2 : Nat → Bool} : ∀ {m : Nat}, (∀ i, i < m → n1 i ≤ n2 i) → (∀ i, i < m → c2 i = true → c1 i = true) → lackT n1 c1 m ≤ lackT n2 c2 m
  | 0, _, _ => Int.le_refl _
  | m + 1, h1, h2 => by
    have a := lackT_mono (m := m) (fun i hi => h1 i (by omega)) (fun i hi => h2 i (by omega))
    have b := ct_le (p := c2) (q := c1) (n := m) fun i hi => h2 i (by omega)
    have d := h1 m (by omega)
    simp only [lackT]; omega
theorem sm_more {f : Nat → Int} (h : ∀ i, 0 ≤ f i) {a : Nat} : ∀ {b : Nat}, a ≤ b → sm f a ≤ sm f b
  | 0, hb => by
    obtain rfl : a = 0 := by omega
    exact Int.le_refl _
  | b + 1, hb => by
    by_cases e : a = b + 1
    · subst e; exact Int.le_refl _
    · have := sm_more h (a := a) (b := b) (by omega)
      have := h b
      simp only [sm]; omega
theorem sm_same {f : Nat → Int} {a : Nat} : ∀ {b : Nat}, a ≤ b → (∀ i, a ≤ i → i < b → f i = 0) → sm f b = sm f a
  | 0, hb, _ => by
    obtain rfl : a = 0 := by omega
    rfl
  | b + 1, hb, h => by
    by_cases e : a = b + 1
    · subst e; rfl
    · have := sm_same (f := f) (a := a) (b := b) (by omega) fun i h1 h2 => h i h1 (by omega)
      have := h b (by omega) (by omega)
      simp only [sm]; omega
theorem idF_none (c : Cv) (h : Nat) : idF c (fun _ _ => none) h = if h < c.hs.length then handsF c h else 0 := by
  have e : ct (stT (fun _ _ => none) h) c.bs.length = 0 := (sm_congr fun i _ => by simp [stT]).trans (sm_zero _)
  simp only [idF]
  rw [e, Int.sub_zero]
theorem ndX_none (c : Cv) (s d : Nat) : ndX c (fun _ _ => none) s d = if s < c.bs.length ∧ d < c.hs.length then ndR c s d else 0 := by
  have e : ct (fun h => stT (fun _ _ => none) h s) d = 0 := (sm_congr fun i _ => by simp [stT]).trans (sm_zero _)
  simp only [ndX]
  rw [e, Int.sub_zero]
theorem stuck_of_short {c : Cv} (hb : c.bs.length ≤ 12) {last set : Nat} (hl : last < c.hs.length) (h8 : c.hs.length ≤ 8) (hs : set < 2 ^ last) (h : shB c last set = true) : StuckR c (fun _ _ => none) := by
  simp only [shB, decide_eq_true_eq] at h
  refine ⟨last, fun h => decide (h < last) && (set.testBit h || !(c.h h).cold), hl, fun h hh => by simp at hh; exact hh.1, ?_⟩
  simp only [Short]
  have e1 : sm (fun h => if (decide (h < last) && (set.testBit h || !(c.h h).cold)) = true then idF c (fun _ _ => none) h else 0) (last + 1) = hndF c set 8 := by
    simp only [hndF]
    have : sm (fun h => if set.testBit h = true then handsF c h else 0) 8 = sm (fun h => if set.testBit h = true then handsF c h else 0) (last + 1) := sm_same (by omega) fun i h1 h2 => if_neg fun hb => by have := bit_lt hs hb; omega
    rw [this]
    refine sm_congr fun i hi => ?_
    by_cases hil : i < last
    · rw [idF_none, if_pos (show i < c.hs.length by omega)]
      cases hbit : set.testBit i with
      | true => simp [hil]
      | false =>
        cases hcold : (c.h i).cold with
        | true => simp
        | false => simp [hil, handsF, hcold]
    · have : set.testBit i = false := by
        cases hbit : set.testBit i with
        | true => have := bit_lt hs hbit; omega
        | false => rfl
      simp [hil, this]
  rw [e1]
  refine Int.lt_of_lt_of_le h ?_
  refine Int.le_trans ?_ (sm_more (a := c.bs.length) (fun i => lackT_nonneg _ _ _) hb)
  refine Int.le_of_eq (sm_congr fun s hs2 => lackT_congr (fun i hi => ?_) fun i hi => ?_)
  · rw [ndX_none, if_pos ⟨hs2, by omega⟩]
  · simp [show i < last by omega, Bool.and_comm]
theorem short_of_stuck {c : Cv} (hb : c.bs.length ≤ 12) (h8 : c.hs.length ≤ 8) (h : StuckR c (fun _ _ => none)) : ∃ last, last < c.hs.length ∧ ∃ set, set < 2 ^ last ∧ shB c last set = true := by
  obtain ⟨last, sm', h1, h2, h3⟩ := h
  obtain ⟨set, h4, h5⟩ := ex_bits sm' last
  refine ⟨last, h1, set, h4, ?_⟩
  simp only [shB, decide_eq_true_eq]
  simp only [Short] at h3
  have hbit : ∀ i, set.testBit i = sm' i := fun i => by
    rw [h5]
    cases hsi : sm' i with
    | false => simp
    | true => simp [h2 i hsi]
  have e1 : sm (fun h => if sm' h = true then idF c (fun _ _ => none) h else 0) (last + 1) = hndF c set 8 := by
    simp only [hndF]
    have : sm (fun h => if set.testBit h = true then handsF c h else 0) 8 = sm (fun h => if set.testBit h = true then handsF c h else 0) (last + 1) := sm_same (by omega) fun i h1 h2 => if_neg fun hb => by have := bit_lt h4 hb; omega
    rw [this]
    refine sm_congr fun i hi => ?_
    rw [hbit, idF_none, if_pos (show i < c.hs.length by omega)]
  rw [← e1]
  refine Int.lt_of_lt_of_le h3 ?_
  rw [sm_same (a := c.bs.length) hb fun i g1 g2 => ?_]
  · refine sm_le fun s hs2 => lackT_mono (fun i hi => ?_) fun i hi hh => ?_
    · rw [ndX_none, if_pos ⟨hs2, by omega⟩]; exact Int.le_refl _
    · simp only [Bool.and_eq_true] at hh
      simpa [hbit] using hh.2
  · refine Int.le_antisymm (lackT_le (Int.le_refl _) fun d hd => ?_) (lackT_nonneg _ _ _)
    rw [ndX_none, if_neg (by omega)]
    exact Int.sub_nonpos_of_le (ct_nonneg _ _)
theorem shN_pos {c : Cv} {last : Nat} : 0 < shN c last ↔ ∃ set, set < 2 ^ last ∧ shB c last set = true := by
  simp only [shN]
  constructor
  · intro h
    obtain ⟨x, hx⟩ := List.exists_mem_of_length_pos h
    exact ⟨x, shL_mem.1 hx⟩
  · rintro ⟨x, hx⟩
    exact List.length_pos_of_mem (shL_mem.2 hx)
theorem shOf_set {c : Cv} {last : Nat} (h : 0 < shN c last) : ∃ set, set < 2 ^ last ∧ shB c last set = true ∧ shOf c last = memL set 8 := by
  have h1 := fstI_le (shW c last (2 ^ last)) (shN c last - 1)
  have h2 : fstI (shW c last (2 ^ last)) (shN c last - 1) < (shL c last (2 ^ last)).length := by
    have : shN c last = (shL c last (2 ^ last)).length := rfl
    omega
  have h3 := shL_mem.1 (List.getElem_mem h2)
  refine ⟨_, h3.1, h3.2, ?_⟩
  simp only [shOf, shW, List.getD_eq_getElem?_getD, List.getElem?_eq_getElem h2, Option.getD_some]
theorem memL_ok {set n : Nat} : ∀ {k : Nat}, (∀ h, h < k → set.testBit h = true → h < n) → okL n (memL set k)
  | 0, _ => fun i hi => by simp [memL] at hi
  | k + 1, h => by
    have ih := memL_ok (set := set) (n := n) (k := k) fun a ha => h a (by omega)
    simp only [memL]
    split
    · rename_i hb
      have hm : ∀ y ∈ memL set k, y < (k : Int) := by
        have : ∀ j, ∀ y ∈ memL set j, y < (j : Int) := fun j => by
          induction j with
          | zero => intro y hy; simp [memL] at hy
          | succ j ih =>
            intro y hy
            simp only [memL, List.mem_append] at hy
            rcases hy with hy | hy
            · have := ih y hy; omega
            · split at hy
              · simp at hy; omega
              · simp at hy
        exact this k
      exact okL_snoc ih (by omega) (by have := h k (by omega) hb; omega) hm
    · rw [List.append_nil]; exact ih
theorem memL_mem {set : Nat} {x : Nat} : ∀ {k : Nat}, (x : Int) ∈ memL set k ↔ x < k ∧ set.testBit x = true
  | 0 => by simp [memL]
  | k + 1 => by
    simp only [memL, List.mem_append, memL_mem (k := k)]
    constructor
    · rintro (h | h)
      · exact ⟨by omega, h.2⟩
      · split at h
        · simp at h
          obtain rfl : x = k := by omega
          exact ⟨by omega, ‹_›⟩
        · simp at h
    · rintro ⟨h1, h2⟩
      by_cases e : x = k
      · subst e; right; simp [h2]
      · exact .inl ⟨by omega, h2⟩
theorem till_h {c : Cv} {k j : Nat} (hj : j < k) : (c.till k).h j = c.h j := by
  simp only [Cv.h, Cv.till, List.getD_eq_getElem?_getD]
  rw [List.getElem?_take_of_lt hj]
theorem till_ic {c : Cv} {k s : Nat} : ∀ {j : Nat}, j ≤ k → icF (c.till k) s j = icF c s j
  | 0, _ => rfl
  | j + 1, h => by
    have ih := till_ic (c := c) (k := k) (s := s) (j := j) (by omega)
    have e : lossF (c.till k) (endT true (c.till k)) s j = lossF c (endT true c) s j := by
      simp only [lossF, end_melt, end_wear, till_h (show j < k by omega)]; rfl
    simp only [icF, ih, e]
theorem till_nd {c : Cv} {k s : Nat} : ∀ {j : Nat}, j ≤ k → ndF (c.till k) s j = ndF c s j
  | 0, _ => rfl
  | j + 1, h => by
    have ih := till_nd (c := c) (k := k) (s := s) (j := j) (by omega)
    have e : asks (c.till k) j = asks c j := by simp only [asks, till_h (show j < k by omega)]; rfl
    simp only [ndF, ih, till_ic h, e]; rfl
theorem till_sh {c : Cv} {k last set : Nat} (hl : last < k) (h8 : k ≤ 8) (hs : set < 2 ^ last) : shB (c.till k) last set = shB c last set := by
  have e1 : hndF (c.till k) set 8 = hndF c set 8 := sm_congr fun i _ => by
    split
    · rename_i hb
      have := bit_lt hs hb
      simp only [handsF, till_h (show i < k by omega)]
    · rfl
  have e2 : ∀ n, askF (c.till k) last set n = askF c last set n := fun n => sm_congr fun s _ => lackT_congr (fun i hi => till_nd (by omega)) fun i hi => by rw [till_h (by omega)]
  simp only [shB, e1, e2]; rfl
theorem till_len (c : Cv) {k : Nat} (hk : k ≤ c.hs.length) : (c.till k).hs.length = k := by simp [Cv.till]; omega
theorem till_bs (c : Cv) (k : Nat) : (c.till k).bs = c.bs := rfl
theorem flat_len {α : Type} {f : α → List AV} {m : Nat} (hf : ∀ a, (f a).length = m) (l : List α) : (l.flatMap f).length = l.length * m := by
  induction l with
  | nil => simp
  | cons a l ih => rw [List.flatMap_cons, List.length_append, ih, hf, List.length_cons, Nat.add_mul]; omega
theorem till_at {H : Heap} {c : Cv} {p : Plc} (hp : CvAt H c p) {k : Nat} (hk : k ≤ c.hs.length) (hex : Bool) : CvAt H (c.till k) { p with hex := hex } := by
  refine ⟨hp.t, hp.b, ?_⟩
  have e : (c.till k).hs.length = k := by simp [Cv.till]; omega
  rw [e]
  have h1 := rd_sub' hp.h 0 (k * 5) (by omega)
  rw [Nat.add_zero] at h1
  show rd H p.hid p.hoff (k * 5) = _
  rw [h1]
  simp only [List.drop_zero, Cv.till, Option.some.injEq]
  have h2 : c.hs.flatMap Hr.av = (c.hs.take k).flatMap Hr.av ++ (c.hs.drop k).flatMap Hr.av := by rw [← List.flatMap_append, List.take_append_drop]
  rw [h2]
  exact List.take_left' (by rw [flat_len Hr.av_length, List.length_take]; congr 1; omega)
theorem avL_z0 (n : Nat) : List.replicate n (AV.int .i64 0) = avL (fun _ => 0) n := by
  induction n with
  | zero => rfl
  | succ n ih => rw [List.replicate_succ', ih]; simp [avL, List.range_succ]
open Go.Hall
set_option maxHeartbeats 4000000 in
theorem c_lawIS (H : Heap) (l : List Str) (c : Cv) (p : Plc) (hp : CvAt H c p) (ht : TrAt H l p) (hn : (l.length : Int) ≤ 9223372036854775807) (hn1 : (c.bs.length : Int) ≤ 9223372036854775807) (hn2 : (c.hs.length : Int) ≤ 9223372036854775807) :
    ACalls Try.prog F.qbv [.agg (c.av p)] H (fun v _ => v = .bool true) := by
  have hp1 := hp.t
  have hp2 := rd_lt hp.b
  have hp3 := rd_lt hp.h
  have kr := fun G => c_ready2 (H ++ G) l c p (hp.app G) (ht.app G) hn hn1 hn2
  have kp := fun G hc hv => c_PlanV (H ++ G) l c p (hp.app G) (ht.app G) hc hv
  have ks := fun G hc hv => c_ShortV (H ++ G) l c p (hp.app G) (ht.app G) hc hv
  have hpA := fun G => hp.app (G := G)
  have htA := fun G => ht.app G
  simp only [Cv.av] at kr kp ks ⊢
  refine acalls_of ok_qbv rfl fun hcl => ?_
  unfold ac_qbv zo
  simp only [argsT, Nat.zero_add, Nat.reduceAdd]
  repeat (first|(with_reducible first|apply X1|apply X2|apply X8)|((with_reducible apply e_end);(simp;exact Rz))|((with_reducible apply O1);rfl;(simp (disch:=omega);exact Rz);exact Rz;(focus (first|(simp;done)|omega|(simp;omega)))))
  (with_reducible apply e_call); (simp; exact Rz); exact c_aliveI _
  rintro _ _ ⟨rfl, rfl⟩
  repeat (first|(with_reducible first|apply X1|apply X2|apply X5|apply X8)|((with_reducible apply e_end);(simp;exact Rz))|((with_reducible apply O1);rfl;(simp (disch:=omega);exact Rz);exact Rz;(focus (first|(simp;done)|omega|(simp;omega))))|((with_reducible apply W3);(simp (disch:=omega);exact Rz)))
  (with_reducible apply e_call); (simp; exact Rz); exact kr _
  rintro _ _ ⟨rfl, b, rfl, hrd⟩
  cases b with
  | false =>
    repeat (first|(with_reducible first|apply X1|apply X2|apply X3|apply X8|apply X9)|((with_reducible apply e_end);(simp;exact Rz))|((with_reducible apply O1);rfl;(simp (disch:=omega);exact Rz);exact Rz;(focus (first|(simp;done)|omega|(simp;omega))))|((with_reducible apply Z9);(simp (disch:=omega);exact Rz)))
    exact q_stay (.inr rfl) (by simp; exact Rz) rfl
  | true =>
  obtain ⟨hv, hc⟩ := hrd.1 rfl
  have h12 := hv.1
  have hlen := hc.len
  have h8 := hc.hours
  have hb12 : c.bs.length ≤ 12 := by omega
  repeat (first|(with_reducible first|apply X1|apply X2|apply X5|apply X8)|((with_reducible apply e_end);(simp;exact Rz))|((with_reducible apply O1);rfl;(simp (disch:=omega);exact Rz);exact Rz;(focus (first|(simp;done)|omega|(simp;omega))))|((with_reducible apply W3);(simp (disch:=omega);exact Rz)))
  (with_reducible apply e_call); (simp; exact Rz); exact ks _ hc hv
  rintro _ _ (⟨last, hla, hz, hpos, rfl, rfl⟩ | ⟨hz, rfl, rfl⟩)
  rotate_left
  · repeat (first|(with_reducible first|apply X1|apply X2|apply X8)|((with_reducible apply e_end);(simp;exact Rz))|((with_reducible apply O1);rfl;(simp (disch:=omega);exact Rz);exact Rz;(focus (first|(simp;done)|omega|(simp;omega)))))
    (with_reducible apply e_call); (simp; exact Rz); exact kp _ hc hv
    rintro _ _ (⟨pl, G, L, rfl, rfl, hpl, hb⟩ | ⟨hst, rfl, rfl⟩)
    · repeat (first|(with_reducible first|apply X1|apply X2|apply X3|apply X8|apply X9)|((with_reducible apply e_end);(simp;exact Rz))|((with_reducible apply O1);rfl;(simp (disch:=omega);exact Rz);exact Rz;(focus (first|(simp;done)|omega|(simp;omega))))|((with_reducible first|apply Z7|apply Z9);(simp (disch:=omega);exact Rz)))
      exact q_stay (.inr rfl) (by simp; exact Rz) rfl
    · obtain ⟨k, h1, h2⟩ := short_of_stuck hb12 h8.2 hst
      have := shN_pos.2 h2
      rw [hz k h1] at this
      omega
  obtain ⟨set, hs1, hs2, hs3⟩ := shOf_set hpos
  have hst := stuck_of_short hb12 hla h8.2 hs1 hs2
  have hnf := hst.no h8.2
  have hol := memL_ok (set := set) (n := last) (k := 8) fun h _ hb => bit_lt hs1 hb
  rw [hs3]
  obtain ⟨M1, hM1⟩ : ∃ M1, M1 = H ++ [AObj.cells [AV.slice p.tid p.toff p.tn 9 p.tex, .slice p.bid p.boff c.bs.length 3 p.bex, .slice p.hid p.hoff c.hs.length 5 p.hex, .int .i64 c.w1, .int .i64 c.w2, .int .i64 c.y1, .int .i64 c.y2, .int .i64 c.rate, .int .i64 c.lim, .int .i64 c.base] true] ++ lsO (memL set 8).length (iv (memL set 8)) := ⟨_, rfl⟩
  obtain ⟨hv5, hhv⟩ : ∃ v, v = lsV (H ++ [AObj.cells [AV.slice p.tid p.toff p.tn 9 p.tex, .slice p.bid p.boff c.bs.length 3 p.bex, .slice p.hid p.hoff c.hs.length 5 p.hex, .int .i64 c.w1, .int .i64 c.w2, .int .i64 c.y1, .int .i64 c.y2, .int .i64 c.rate, .int .i64 c.lim, .int .i64 c.base] true]) 1 (memL set 8).length := ⟨_, rfl⟩
  have hih : IAt M1 hv5 (memL set 8) := by rw [hM1, hhv]; exact ls_int _ _
  have hbx : rd M1 H.length 0 10 = some [AV.slice p.tid p.toff p.tn 9 p.tex, .slice p.bid p.boff c.bs.length 3 p.bex, .slice p.hid p.hoff c.hs.length 5 p.hex, .int .i64 c.w1, .int .i64 c.w2, .int .i64 c.y1, .int .i64 c.y2, .int .i64 c.rate, .int .i64 c.lim, .int .i64 c.base] := by rw [hM1]; simp
  obtain ⟨XA, hX1⟩ : ∃ X, M1 = H ++ X := ⟨_, by rw [hM1, List.append_assoc]⟩
  rw [← hM1, ← hhv]
  clear hM1 hhv
  have hHM : H.length < M1.length := rd_lt hbx
  have hvsc : ∀ k, hv5.sc (M1.length + k) = true := fun k => RAt.sc hih (by omega)
  have hvs0 := hvsc 0
  rw [Nat.add_zero] at hvs0
  have kp1 := fun T => kp (XA ++ T) hc hv
  have e1 : ∀ T, H ++ (XA ++ T) = M1 ++ T := fun T => by rw [hX1, List.append_assoc]
  simp only [e1] at kp1
  have kp10 := kp1 []
  rw [List.append_nil] at kp10
  repeat (first|(with_reducible first|apply X1|apply X2|apply X8)|((with_reducible apply e_end);(simp;exact Rz))|((with_reducible apply O1);rfl;(simp (disch:=omega) [hbx];exact Rz);exact Rz;(focus (first|(simp;done)|omega|(simp;omega)))))
  (with_reducible apply e_call); (simp; exact Rz); exact kp10
  rintro _ hqh (⟨pl, G, L, rfl, hqe, hpl, hb⟩ | ⟨_, rfl, hqe⟩)
  · exact absurd ((feas0_iff hb12 h8.2).2 ⟨inP L, hb.good.rows, hb.good.needs⟩) hnf
  rw [hqe]; clear hqe hqh
  have hb2 := rd_sub' hbx 2 1 (by omega)
  have hb1 := rd_sub' hbx 1 1 (by omega)
  simp only [List.drop_succ_cons, List.drop_zero, List.take_succ_cons, List.take_zero, Nat.zero_add] at hb1 hb2
  have hla2 : (last : Int) < c.hs.length := by omega
  have hcv : ∀ T, CvAt (M1 ++ T) c p := fun T => by rw [hX1, List.append_assoc]; exact hpA _
  have htr : ∀ T, TrAt (M1 ++ T) l p := fun T => by rw [hX1, List.append_assoc]; exact htA _
  have ku := fun T k hk => c_until2 (M1 ++ T) c p (hcv T) k hk (by omega)
  have kpt := fun T k h1 hk => c_PlanV (M1 ++ T) l (c.till k) { p with hex := p.hex && decide (k = c.hs.length) } (till_at (hcv T) hk _) ⟨(htr T).n, (htr T).t⟩ (till_ok hc h1 hk) hv
  have knt := fun T k h1 hk => c_iNeedV (M1 ++ T) l (c.till k) { p with hex := p.hex && decide (k = c.hs.length) } (till_at (hcv T) hk _) ⟨(htr T).n, (htr T).t⟩ (till_ok hc h1 hk) hv
  simp only [Cv.av] at ku kpt knt
  have hl0 : ¬ (last : Int) < 0 := by omega
  have hl3 : ¬ c.hs.length ≤ last := by omega
  have hl4 : ¬ (c.hs.length : Int) ≤ last := by omega
  repeat (first|(with_reducible first|apply X1|apply X2|apply X5|apply X8)|((with_reducible apply e_end);(simp;exact Rz))|((with_reducible apply O1);rfl;(simp (disch:=omega) [hb2, hla, hla2, hl0, hl3, hl4];exact Rz);exact Rz;(focus (first|(simp;done)|omega|(simp;omega))))|((with_reducible apply Z7);(simp (disch:=omega) [hb2, hla, hla2, hl0, hl3, hl4];exact Rz))|((with_reducible apply W3);(simp (disch:=omega) [hb2, hla, hla2, hl0, hl3, hl4];exact Rz)))
  refine c_cut (fun t h => (lk t 1 = .ptr H.length 0 ∧ lk t 3 = .bool true ∧ lk t 4 = .int .i64 last ∧ lk t 5 = hv5) ∧ ∃ T, h = M1 ++ T) ?_ ?_
  · by_cases h0 : 0 < last
    · have ku0 := ku [] last (by omega)
      have kp0 := kpt [] last h0 (by omega)
      rw [List.append_nil] at ku0 kp0
      repeat (first|(with_reducible first|apply X1|apply X2)|((with_reducible apply O1);rfl;(simp (disch:=omega) [h0, hbx];exact Rz);exact Rz;(focus (first|(simp;done)|omega|(simp;omega))))|((with_reducible apply Z9);(simp (disch:=omega) [h0, hbx];exact Rz)))
      (with_reducible apply e_call); (simp; exact Rz); exact ku0
      rintro _ _ ⟨rfl, rfl⟩
      skip
      (with_reducible apply e_call); (simp; exact Rz); exact kp0
      rintro _ _ (⟨pl, G, L, rfl, rfl, hpl, hb⟩ | ⟨hst2, rfl, rfl⟩)
      · repeat (first|(with_reducible first|apply X1|apply X2|apply X5|apply X8)|((with_reducible apply e_end);(simp;exact Rz))|((with_reducible apply O1);rfl;(simp (disch:=omega);exact Rz);exact Rz;(focus (first|(simp;done)|omega|(simp;omega))))|((with_reducible apply W3);(simp (disch:=omega);exact Rz)))
        exact q_cut ⟨by simp [lk], G, rfl⟩
      · obtain ⟨k, g1, g2, g3, g4⟩ := short_of_stuck (by rw [till_bs]; omega) (by rw [till_len c (by omega)]; omega) hst2
        rw [till_len c (by omega)] at g1
        rw [till_sh g1 (by omega) g3] at g4
        have := shN_pos.2 ⟨g2, g3, g4⟩
        rw [hz k g1] at this
        omega
    · repeat (first|(with_reducible apply X5)|((with_reducible apply W3);(simp (disch:=omega) [h0];exact Rz)))
      exact q_cut ⟨by simp [lk], [], by simp⟩
  · clear kp1 kp10 kp ks kr
    rintro t _ ⟨⟨y1, y3, y4, y5⟩, T, rfl⟩
    have hihT : IAt (M1 ++ T) hv5 (memL set 8) := hih.app T
    have hll := memL_le set 8
    have hsb := fun k => hsum_bd hc ((memL set 8).take k) (fun x hx => by
      obtain ⟨i, hi, rfl⟩ := List.getElem_of_mem (List.mem_of_mem_take hx)
      have := (hol i hi).1; omega)
    have hbT : ∀ T, rd (M1 ++ T) H.length 0 10 = some [AV.slice p.tid p.toff p.tn 9 p.tex, .slice p.bid p.boff c.bs.length 3 p.bex, .slice p.hid p.hoff c.hs.length 5 p.hex, .int .i64 c.w1, .int .i64 c.w2, .int .i64 c.y1, .int .i64 c.y2, .int .i64 c.rate, .int .i64 c.lim, .int .i64 c.base] := fun T => by rw [rd_old _ hHM]; exact hbx
    have hb1T : ∀ T, rd (M1 ++ T) H.length 1 1 = some [.slice p.bid p.boff c.bs.length 3 p.bex] := fun T => by rw [rd_old _ hHM]; exact hb1
    have hb2T : ∀ T, rd (M1 ++ T) H.length 2 1 = some [.slice p.hid p.hoff c.hs.length 5 p.hex] := fun T => by rw [rd_old _ hHM]; exact hb2
    have hr4 := fun T k (hk : k < c.hs.length) => rd_sub' ((hcv T).hour hk) 4 1 (by omega)
    have hr3 := fun T k (hk : k < c.hs.length) => rd_sub' ((hcv T).hour hk) 3 1 (by omega)
    simp only [Hr.av, List.drop_succ_cons, List.drop_zero, List.take_succ_cons, List.take_zero] at hr4 hr3
    repeat (first|(with_reducible first|apply X1|apply X2|apply X8)|((with_reducible apply e_end);(simp;exact Rz))|((with_reducible apply O1);rfl;(simp (disch:=omega) [y1, y3, y4, y5];exact Rz);exact Rz;(focus (first|(simp;done)|omega|(simp;omega)))))
    (with_reducible apply e_op); rfl; exact RAt.len hihT _ (by simp); exact Rz; trivial
    repeat (first|(with_reducible first|apply X6|apply X8)|((with_reducible apply e_end);(simp;exact Rz))|((with_reducible apply O1);rfl;(simp (disch:=omega);exact Rz);exact Rz;(focus (first|(simp;done)|omega|(simp;omega)))))
    refine e_loop (ι := { i : Nat // i ≤ (memL set 8).length }) (fun i => [(1, .ptr H.length 0), (3, .bool true), (4, .int .i64 last), (5, hv5), (11, .int .i64 (hsum c ((memL set 8).take i.1))), (85, hv5), (86, .int .i64 (memL set 8).length), (87, .int .i64 i.1)])
      (fun _ => M1 ++ T) (fun i => (memL set 8).length - i.1) ⟨0, by simp⟩ ?_ ?_
    · exact .inl (by simp [y1, y3, y4, y5, hsum])
    · rintro ⟨i, hi⟩
      dsimp only
      by_cases hlt : i < (memL set 8).length
      · have hlt2 : (i : Int) < (memL set 8).length := by omega
        obtain ⟨id, off, ex, rfl, hx, hid⟩ := IAt.get hihT hlt
        have hxo := (hol i hlt).1
        have hxp := (hol i hlt).2
        have hst := hsum_take c (memL set 8) i hlt
        have hs0 := hsb i
        have hs1 := hsb (i + 1)
        have hl1 : ((memL set 8).take i).length ≤ 8 := by simp; omega
        have hl2 : ((memL set 8).take (i + 1)).length ≤ 8 := by simp; omega
        have hxq : ∀ (hj : 0 < i), rd (M1 ++ T) id (off + (i - 1)) 1 = some [.int .i64 ((memL set 8)[i - 1]'(by omega))] := fun hj => by
          obtain ⟨id', off', ex', e', hx', _⟩ := IAt.get hihT (show i - 1 < (memL set 8).length by omega)
          injection e' with e1 e2
          rw [e1, e2]; exact hx'
        generalize (memL set 8)[i] = x at hxo hxp hst hx
        obtain ⟨m, rfl⟩ := Int.eq_ofNat_of_zero_le hxo.1
        have hm : m < c.hs.length := by omega
        have hmI : (m : Int) < c.hs.length := by omega
        have hm0 : ¬ (m : Int) < 0 := by omega
        have hm1 : ¬ last ≤ m := by omega
        have hm2 : ¬ (last : Int) ≤ m := by omega
        rw [Int.toNat_natCast] at hst
        have r4 := hr4 T m hm
        have r3 := hr3 T m hm
        by_cases hi0 : i = 0
        · subst hi0
          rw [Nat.add_zero] at hx
          rw [Nat.zero_add] at hst
          have hz0 : hsum c [] = 0 := rfl
          have hcr := (hc.hok m hm).2.2
          rw [← Cv.h_eq hm] at hcr
          have hIX : (1 : Nat) = 0 + 1 := rfl
          repeat (first|(with_reducible first|apply X1|apply X2|apply X5|apply X6|apply X8)|((with_reducible apply e_end);(simp;exact Rz))|((with_reducible apply O1);rfl;(simp (disch:=omega) [hz0, hlt, hlt2, hx, hm0, hm1, hm2];exact Rz);exact Rz;(focus (first|(simp;done)|omega|(simp;omega))))|((with_reducible first|apply Z7|apply Z9);(simp (disch:=omega) [hz0, hlt, hlt2, hx, hm0, hm1, hm2];exact Rz))|((with_reducible apply Z1);(simp (disch:=omega) [hz0, hlt, hlt2, hx, hm0, hm1, hm2];exact Rz))|((with_reducible apply W3);(simp (disch:=omega) [hz0, hlt, hlt2, hx, hm0, hm1, hm2];exact Rz)))
          cases hcold : (c.h m).cold with
          | false =>
            rw [hcold] at r4
            have e2 : handsF c m = 0 := by simp [handsF, hcold]
            rw [e2, Int.add_zero] at hst
            repeat (first|(with_reducible first|apply X2|apply X5|apply X8|apply Y2)|((with_reducible apply e_end);(simp;exact Rz))|((with_reducible apply O1);rfl;(simp (disch:=omega) [hz0, r4, hm, hmI, hb2T];exact Rz);exact Rz;(focus (first|(simp;done)|omega|(simp;omega))))|((with_reducible apply W3);(simp (disch:=omega) [hz0, r4, hm, hmI, hb2T];exact Rz)))
            exact q_again ⟨1, hlt⟩ (by dsimp only; omega) (.inl (by simp [hst, hz0]))
          | true =>
            rw [hcold] at r4
            have e2 : handsF c m = (c.h m).crew := by simp [handsF, hcold]
            rw [e2] at hst
            repeat (first|(with_reducible first|apply X2|apply X8)|((with_reducible apply e_end);(simp;exact Rz))|((with_reducible apply O1);rfl;(simp (disch:=omega) [hz0, r4, hm, hmI, hb2T];exact Rz);exact Rz;(focus (first|(simp;done)|omega|(simp;omega))))|((with_reducible apply Z9);(simp (disch:=omega) [hz0, r4, hm, hmI, hb2T];exact Rz)))
            repeat (first|(with_reducible first|apply X2|apply X8|apply Y2)|((with_reducible apply e_end);(simp;exact Rz))|((with_reducible apply O1);rfl;(simp (disch:=omega) [hz0, r3, hm, hmI, hb2T];exact Rz);exact Rz;(focus (first|(simp;done)|omega|(simp;omega)))))
            exact q_again ⟨1, hlt⟩ (by dsimp only; omega) (.inl (by simp [hst, hz0]))
        · obtain ⟨j, rfl⟩ : ∃ j, i = j + 1 := ⟨i - 1, by omega⟩
          have hxp := hxp (by omega)
          have hxq := hxq (by omega)
          simp only [Nat.add_sub_cancel] at hxp hxq
          generalize (memL set 8)[j] = y at hxp hxq
          have hxy : ¬ (m : Int) ≤ y := by omega
          have hjl : j < (memL set 8).length := by omega
          have hlt3 : (j : Int) + 1 < (memL set 8).length := by omega
          repeat (first|(with_reducible first|apply X1|apply X2|apply X5|apply X6|apply X8)|((with_reducible apply e_end);(simp;exact Rz))|((with_reducible apply O1);rfl;(simp (disch:=omega) [hlt, hlt2, hlt3, hx, hm0, hm1, hm2, hjl, hxq, hxy];exact Rz);exact Rz;(focus (first|(simp;done)|omega|(simp;omega))))|((with_reducible first|apply Z7|apply Z9);(simp (disch:=omega) [hlt, hlt2, hlt3, hx, hm0, hm1, hm2, hjl, hxq, hxy];exact Rz))|((with_reducible apply W3);(simp (disch:=omega) [hlt, hlt2, hlt3, hx, hm0, hm1, hm2, hjl, hxq, hxy];exact Rz)))
          cases hcold : (c.h m).cold with
          | false =>
            rw [hcold] at r4
            have e2 : handsF c m = 0 := by simp [handsF, hcold]
            rw [e2, Int.add_zero] at hst
            repeat (first|(with_reducible first|apply X2|apply X5|apply X8|apply Y2)|((with_reducible apply e_end);(simp;exact Rz))|((with_reducible apply O1);rfl;(simp (disch:=omega) [r4, hm, hmI, hb2T];exact Rz);exact Rz;(focus (first|(simp;done)|omega|(simp;omega))))|((with_reducible apply W3);(simp (disch:=omega) [r4, hm, hmI, hb2T];exact Rz)))
            exact q_again ⟨j + 1 + 1, hlt⟩ (by dsimp only; omega) (.inl (by simp [hst]))
          | true =>
            rw [hcold] at r4
            have e2 : handsF c m = (c.h m).crew := by simp [handsF, hcold]
            rw [e2] at hst
            repeat (first|(with_reducible first|apply X2|apply X8)|((with_reducible apply e_end);(simp;exact Rz))|((with_reducible apply O1);rfl;(simp (disch:=omega) [r4, hm, hmI, hb2T];exact Rz);exact Rz;(focus (first|(simp;done)|omega|(simp;omega))))|((with_reducible apply Z9);(simp (disch:=omega) [r4, hm, hmI, hb2T];exact Rz)))
            repeat (first|(with_reducible first|apply X2|apply X8|apply Y2)|((with_reducible apply e_end);(simp;exact Rz))|((with_reducible apply O1);rfl;(simp (disch:=omega) [r3, hm, hmI, hb2T];exact Rz);exact Rz;(focus (first|(simp;done)|omega|(simp;omega)))))
            exact q_again ⟨j + 1 + 1, hlt⟩ (by dsimp only; omega) (.inl (by simp [hst]))
      · have hlt2 : ¬ (i : Int) < (memL set 8).length := by omega
        obtain rfl : i = (memL set 8).length := by omega
        rw [List.take_length, hsum_mem]
        repeat (first|(with_reducible first|apply X1|apply X2|apply X4|apply X6|apply X8|apply Y1|apply Y4|apply Y6)|((with_reducible apply e_end);(simp;exact Rz))|((with_reducible apply O1);rfl;(simp (disch:=omega) [hlt2, hb1T];exact Rz);exact Rz;(focus (first|(simp;done)|omega|(simp;omega))))|((with_reducible apply W3);(simp (disch:=omega) [hlt2, hb1T];exact Rz)))
        rw [avL_z0]
        obtain ⟨N, hN⟩ : ∃ N, N = M1 ++ T := ⟨_, rfl⟩
        have eN : ∀ Y, M1 ++ (T ++ Y) = N ++ Y := fun Y => by rw [hN, List.append_assoc]
        have hHN : H.length < N.length := by rw [hN]; simp; omega
        have hvN : ∀ k, hv5.sc (N.length + k) = true := fun k => RAt.sc (m := N.length + k) hihT (by rw [← hN]; omega)
        have kuN := fun Y k hk => ku (T ++ Y) k hk
        have knN := fun Y k h1 hk => knt (T ++ Y) k h1 hk
        have hbN := fun Y => hbT (T ++ Y)
        have hb1N := fun Y => hb1T (T ++ Y)
        have hb2N := fun Y => hb2T (T ++ Y)
        have hr4N := fun Y k hk => hr4 (T ++ Y) k hk
        have hihN : ∀ Y, IAt (N ++ Y) hv5 (memL set 8) := fun Y => by rw [hN]; exact hihT.app Y
        have khN := fun Y h b hb => cv_Has (N ++ Y) hv5 (memL set 8) h (hihN Y) (by omega) (b := b) hb
        simp only [eN] at kuN knN hbN hb1N hb2N hr4N
        simp only [eN]
        have eNl : M1.length + T.length = N.length := by rw [hN]; simp
        rw [eNl]
        simp only [till_bs] at knN kuN
        clear hr4 hr3 hbT hb1T hb2T ku knt kpt hcv htr hihT
        have hbs : 0 < c.bs.length := by omega
        have hbs0 : ¬ c.bs.length = 0 := by omega
        have hHn := hsum_bd hc (memL set 8) (fun x hx => by
          obtain ⟨i, hi, rfl⟩ := List.getElem_of_mem hx
          have := (hol i hi).1; omega)
        rw [hsum_mem] at hHn
        obtain ⟨can, hcan⟩ : ∃ f : Nat → Bool, f = fun h => (c.h h).cold && !set.testBit h := ⟨_, rfl⟩
        have lb : ∀ m s, s < c.bs.length → m ≤ c.hs.length → 0 ≤ lackT (ndR c s) can m ∧ lackT (ndR c s) can m ≤ 20200 := fun m s hs hm => ⟨lackT_nonneg _ _ _, lackT_le (by omega) fun d hd => by
          have h1 := (ndF_bd hc hs (h := d + 1) (by omega)).2
          have h2 := ct_nonneg can d
          simp only [ndR]; omega⟩
        skip
        refine e_loop (ι := { x : Nat × Heap // x.1 ≤ last + 1 }) (fun x => [(1, .ptr H.length 0), (3, .bool true), (4, .int .i64 last), (5, hv5), (11, .int .i64 (hndF c set 8)), (14, .slice N.length 0 c.bs.length 1 true), (15, .int .i64 (ct can x.1.1)), (16, .int .i64 x.1.1)])
          (fun x => N ++ .cells (avL (fun s => lackT (ndR c s) can x.1.1) c.bs.length) true :: x.1.2) (fun x => last + 1 - x.1.1) ⟨(0, []), by simp⟩ ?_ ?_
        · exact .inl rfl
        · rintro ⟨⟨h, Y⟩, hh⟩
          dsimp only at hh ⊢
          by_cases hle : h ≤ last
          · have hle2 : (h : Int) ≤ last := by omega
            have hlt : h < c.hs.length := by omega
            have hltI : (h : Int) < c.hs.length := by omega
            have ku1 := fun Y => kuN Y (h + 1) (by omega)
            have kn1 := fun Y => knN Y (h + 1) (by omega) (by omega)
            have elv : ∀ Z, lsV Z 1 c.bs.length = .slice Z.length 0 c.bs.length 1 false := fun Z => by simp [lsV, hbs0]
            have elo : ∀ cs, lsO c.bs.length cs = [.cells cs true] := fun cs => by simp [lsO, hbs0]
            have end_ : (fun s => ndF (c.till (h + 1)) s (h + 1)) = fun s => ndR c s h := funext fun s => till_nd (Nat.le_refl _)
            simp only [till_len c (show h + 1 ≤ c.hs.length by omega), elv, elo, iv_tn, end_] at ku1 kn1
            have ku1 := fun Y => ku1 Y
            have e1 : ((h + 1 : Nat) : Int) = (h : Int) + 1 := by omega
            rw [e1] at ku1
            repeat (first|(with_reducible first|apply X1|apply X2|apply X5|apply X6|apply X8)|((with_reducible apply e_end);(simp;exact Rz))|((with_reducible apply O1);rfl;(simp (disch:=omega) [hle, hle2, hbN];exact Rz);exact Rz;(focus (first|(simp;done)|omega|(simp;omega))))|((with_reducible apply Z9);(simp (disch:=omega) [hle, hle2, hbN];exact Rz)))
            (with_reducible apply e_call); (simp; exact Rz); exact ku1 _
            rintro _ _ ⟨rfl, rfl⟩
            skip
            (with_reducible apply e_call); (simp; exact Rz); exact kn1 _
            rintro _ _ ⟨rfl, rfl⟩
            repeat (first|(with_reducible first|apply X1|apply X2|apply X5|apply X6|apply X8)|((with_reducible apply e_end);(simp;exact Rz))|((with_reducible apply O1);rfl;(simp (disch:=omega) [hb1N];exact Rz);exact Rz;(focus (first|(simp;done)|omega|(simp;omega))))|((with_reducible apply Z7);(simp (disch:=omega) [hb1N];exact Rz))|((with_reducible apply W3);(simp (disch:=omega) [hb1N];exact Rz)))
            refine e_loop (ι := { i : Nat // i ≤ c.bs.length }) (fun i => [(1, .ptr H.length 0), (3, .bool true), (4, .int .i64 last), (5, hv5), (11, .int .i64 (hndF c set 8)), (14, .slice N.length 0 c.bs.length 1 true), (15, .int .i64 (ct can h)), (16, .int .i64 h), (17, .slice (N.length + (Y.length + 1)) 0 c.bs.length 1 false), (155, .int .i64 c.bs.length), (156, .int .i64 i.1)])
              (fun i => N ++ .cells (avL (fun s => if s < i.1 then lackT (ndR c s) can (h + 1) else lackT (ndR c s) can h) c.bs.length) true :: (Y ++ [.cells (avL (fun s => ndR c s h) c.bs.length) true])) (fun i => c.bs.length - i.1) ⟨0, by simp⟩ ?_ ?_
            · exact .inl (by simp)
            · rintro ⟨i, hi⟩
              dsimp only
              by_cases hil : i < c.bs.length
              · have hil2 : (i : Int) < c.bs.length := by omega
                have hl1 : i + 1 ≤ c.bs.length := hil
                have l1 := avL_one (f := fun s => if s < i then lackT (ndR c s) can (h + 1) else lackT (ndR c s) can h) hil
                have l2 := avL_one (f := fun s => ndR c s h) hil
                have lv := lb h i hil (by omega)
                have nb := ndF_bd hc hil (h := h + 1) (by omega)
                have nR : ndR c i h = ndF c i (h + 1) := rfl
                have cb := ct_nonneg can h
                have cb2 := ct_top can h
                have lS : lackT (ndR c i) can (h + 1) = max (lackT (ndR c i) can h) (ndR c i h - ct can h) := rfl
                simp only [Nat.lt_irrefl, if_false] at l1
                have hput := avL_put (f := fun s => if s < i then lackT (ndR c s) can (h + 1) else lackT (ndR c s) can h) (g := fun s => if s < i + 1 then lackT (ndR c s) can (h + 1) else lackT (ndR c s) can h) (n := c.bs.length) (i := i) (x := if lackT (ndR c i) can h < ndR c i h - ct can h then ndR c i h - ct can h else lackT (ndR c i) can h) hil (fun j => by
                  by_cases hj : j = i
                  · subst hj
                    rw [if_pos rfl, if_pos (by omega), lS]
                    split <;> omega
                  · rw [if_neg hj]
                    have : (j < i + 1) ↔ (j < i) := by omega
                    simp only [this])
                repeat (first|(with_reducible first|apply X1|apply X2|apply X5|apply X6|apply X8|apply Y2|apply Y9)|((with_reducible first|apply e_end|apply d_end);(simp;exact Rz))|((first|((with_reducible apply O1);rfl)|((with_reducible apply P1);rfl)|((with_reducible apply P2);rfl)|((with_reducible apply P4);rfl));(simp (disch:=omega) [hil, hil2, hl1, avL_length, l1, l2, -splice, hput];exact Rz);exact Rz;(focus (first|(simp;done)|omega|(simp;omega))))|((with_reducible apply Z9);(simp (disch:=omega) [hil, hil2, hl1, avL_length, l1, l2, -splice, hput];exact Rz)))
                exact q_again ⟨i + 1, hil⟩ (by dsimp only; omega) (.inl (by simp))
              · obtain rfl : i = c.bs.length := by omega
                have hil2 : ¬ (c.bs.length : Int) < c.bs.length := by omega
                have em : avL (fun s => if s < c.bs.length then lackT (ndR c s) can (h + 1) else lackT (ndR c s) can h) c.bs.length = avL (fun s => lackT (ndR c s) can (h + 1)) c.bs.length := by
                  simp only [avL]
                  apply List.map_congr_left
                  intro s hs
                  rw [if_pos (List.mem_range.1 hs)]
                rw [em]
                have r4 := fun Z => hr4N Z h hlt
                have ctS : ct can (h + 1) = ct can h + if ((c.h h).cold && !set.testBit h) = true then 1 else 0 := by rw [hcan]; rfl
                have cb := ct_nonneg can h
                have cb2 := ct_top can h
                have kh1 := fun Z b hb => khN Z (h : Int) b hb
                cases hcold : (c.h h).cold with
                | false =>
                  rw [hcold] at r4 ctS
                  simp at ctS
                  repeat (first|(with_reducible first|apply X1|apply X2|apply X4|apply X5|apply X8|apply Y1|apply Y2|apply Y4|apply Y6)|((with_reducible apply e_end);(simp;exact Rz))|((with_reducible apply O1);rfl;(simp (disch:=omega) [hil2, hb2N, hlt, hltI, r4];exact Rz);exact Rz;(focus (first|(simp;done)|omega|(simp;omega))))|((with_reducible apply Z1);(simp (disch:=omega) [hil2, hb2N, hlt, hltI, r4];exact Rz))|((with_reducible apply W3);(simp (disch:=omega) [hil2, hb2N, hlt, hltI, r4];exact Rz)))
                  exact q_again ⟨(h + 1, Y ++ [.cells (avL (fun s => ndR c s h) c.bs.length) true]), by dsimp only; omega⟩ (by dsimp only; omega) (.inl (by simp [ctS]))
                | true =>
                  rw [hcold] at r4 ctS
                  repeat (first|(with_reducible first|apply X1|apply X2|apply X4|apply X8|apply Y1|apply Y4|apply Y6)|((with_reducible apply e_end);(simp;exact Rz))|((with_reducible apply O1);rfl;(simp (disch:=omega) [hil2, hb2N, hlt, hltI, r4];exact Rz);exact Rz;(focus (first|(simp;done)|omega|(simp;omega))))|((with_reducible apply Z7);(simp (disch:=omega) [hil2, hb2N, hlt, hltI, r4];exact Rz))|((with_reducible apply W3);(simp (disch:=omega) [hil2, hb2N, hlt, hltI, r4];exact Rz)))
                  (with_reducible apply e_call); (simp; exact Rz); exact kh1 _ (set.testBit h) ⟨fun x => memL_mem.2 ⟨by omega, x⟩, fun x => (memL_mem.1 x).2⟩
                  rintro _ _ ⟨rfl, rfl⟩
                  cases hbit : set.testBit h with
                  | true =>
                    rw [hbit] at ctS
                    simp at ctS
                    repeat (first|(with_reducible first|apply X2|apply X5|apply X8|apply Y2)|((with_reducible apply e_end);(simp;exact Rz))|((with_reducible apply O1);rfl;(simp (disch:=omega);exact Rz);exact Rz;(focus (first|(simp;done)|omega|(simp;omega))))|((with_reducible apply Z7);(simp (disch:=omega);exact Rz))|((with_reducible apply W3);(simp (disch:=omega);exact Rz)))
                    exact q_again ⟨(h + 1, Y ++ [.cells (avL (fun s => ndR c s h) c.bs.length) true]), by dsimp only; omega⟩ (by dsimp only; omega) (.inl (by simp [ctS]))
                  | false =>
                    rw [hbit] at ctS
                    simp at ctS
                    repeat (first|(with_reducible first|apply X2|apply X8|apply Y2)|((with_reducible apply e_end);(simp;exact Rz))|((with_reducible apply O1);rfl;(simp (disch:=omega);exact Rz);exact Rz;(focus (first|(simp;done)|omega|(simp;omega))))|((with_reducible first|apply Z7|apply Z9);(simp (disch:=omega);exact Rz)))
                    exact q_again ⟨(h + 1, Y ++ [.cells (avL (fun s => ndR c s h) c.bs.length) true]), by dsimp only; omega⟩ (by dsimp only; omega) (.inl (by simp [ctS]))
          · obtain rfl : h = last + 1 := by omega
            have hle2 : ¬ (last : Int) + 1 ≤ last := by omega
            have hask : sm (fun s => lackT (ndR c s) can (last + 1)) c.bs.length = askF c last set c.bs.length := by rw [hcan]; rfl
            have sb : ∀ i, i ≤ c.bs.length → 0 ≤ sm (fun s => lackT (ndR c s) can (last + 1)) i ∧ sm (fun s => lackT (ndR c s) can (last + 1)) i ≤ 20200 * i := fun i => by
              induction i with
              | zero => intro _; simp [sm]
              | succ i ih =>
                intro hi
                have a1 := ih (by omega)
                have a2 := lb (last + 1) i (by omega) (by omega)
                simp only [sm]; omega
            have hs2' : hndF c set 8 < askF c last set c.bs.length := by simpa [shB] using hs2
            repeat (first|(with_reducible first|apply X1|apply X2|apply X4|apply X6|apply X8|apply Y1|apply Y4|apply Y6)|((with_reducible apply e_end);(simp;exact Rz))|((with_reducible apply O1);rfl;(simp (disch:=omega) [hle, hle2];exact Rz);exact Rz;(focus (first|(simp;done)|omega|(simp;omega))))|((with_reducible apply W3);(simp (disch:=omega) [hle, hle2];exact Rz)))
            refine e_loop (ι := { i : Nat // i ≤ c.bs.length }) (fun i => [(3, .bool true), (11, .int .i64 (hndF c set 8)), (20, .int .i64 (sm (fun s => lackT (ndR c s) can (last + 1)) i.1)), (188, .slice N.length 0 c.bs.length 1 true), (189, .int .i64 c.bs.length), (190, .int .i64 i.1)])
              (fun _ => N ++ .cells (avL (fun s => lackT (ndR c s) can (last + 1)) c.bs.length) true :: Y) (fun i => c.bs.length - i.1) ⟨0, by simp⟩ ?_ ?_
            · exact .inl (by simp [sm])
            · rintro ⟨i, hi⟩
              dsimp only
              by_cases hil : i < c.bs.length
              · have hil2 : (i : Int) < c.bs.length := by omega
                have hl1 : i + 1 ≤ c.bs.length := hil
                have l1 := avL_one (f := fun s => lackT (ndR c s) can (last + 1)) hil
                have a1 := sb i hi
                have a2 := lb (last + 1) i hil (by omega)
                have a3 : sm (fun s => lackT (ndR c s) can (last + 1)) (i + 1) = sm (fun s => lackT (ndR c s) can (last + 1)) i + lackT (ndR c i) can (last + 1) := rfl
                repeat (first|(with_reducible first|apply X1|apply X2|apply X5|apply X6|apply X8|apply Y2)|((with_reducible apply e_end);(simp;exact Rz))|((with_reducible apply O1);rfl;(simp (disch:=omega) [hil, hil2, hl1, avL_length, l1];exact Rz);exact Rz;(focus (first|(simp;done)|omega|(simp;omega))))|((with_reducible apply Z9);(simp (disch:=omega) [hil, hil2, hl1, avL_length, l1];exact Rz)))
                exact q_again ⟨i + 1, hil⟩ (by dsimp only; omega) (.inl (by simp [a3]))
              · obtain rfl : i = c.bs.length := by omega
                have hil2 : ¬ (c.bs.length : Int) < c.bs.length := by omega
                rw [hask]
                repeat (first|(with_reducible first|apply X1|apply X2|apply X3|apply X4|apply X8|apply Y1|apply Y4|apply Y6)|((with_reducible apply e_end);(simp;exact Rz))|((with_reducible apply O1);rfl;(simp (disch:=omega) [hil2, hs2'];exact Rz);exact Rz;(focus (first|(simp;done)|omega|(simp;omega))))|((with_reducible apply Z7);(simp (disch:=omega) [hil2, hs2'];exact Rz))|((with_reducible apply W3);(simp (disch:=omega) [hil2, hs2'];exact Rz)))
                exact q_stay (.inr rfl) (by simp [hs2']; exact Rz) rfl
end Go.Proofs
