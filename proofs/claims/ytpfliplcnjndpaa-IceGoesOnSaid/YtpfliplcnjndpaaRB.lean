/- Several texts as one. -/
import Derived.Test.YtpfliplcnjndpaaRA
import Derived.Test.YtpfliplcnjndpaaRunIceAlive
/- Ice: hours that go on; the law's contract. -/
namespace Go.Proofs
open Go.Abs
attribute [local simp] AOp.den AOpd.ev lk cellsOf rd_new rd_new0 rd_zero rd_succ wr_new wr_new0 wr_zero wr_succ splice fillA binA scal sliceCells List.length_append argsT AV.sc scL AObj.sc resV getAll AR.get AOp.slots opdSlots opdsSlots partSlots eqAt at_new0 at_new set_new0 set_new wrap64
set_option linter.unusedSimpArgs false
set_option linter.unusedVariables false
theorem c_aliveI (H : Heap) : ACalls Try.prog F.law02_alive [] H (fun v h => v = .bool true ∧ h = H) := Try.true33 H
/-- The later cover: its beds are as thick as was told. -/
def Cv.later (c : Cv) (P : Nat → Nat → Bool) (k : Nat) : Cv :=
  { c with bs := (List.range c.bs.length).map fun s => ⟨befF c (endT true c) P s k, befF c (endT false c) P s k, (c.b s).sun⟩, hs := c.hs.drop k }
theorem later_b {c : Cv} {P : Nat → Nat → Bool} {k s : Nat} (hs : s < c.bs.length) : (c.later P k).b s = ⟨befF c (endT true c) P s k, befF c (endT false c) P s k, (c.b s).sun⟩ := by
  rw [Cv.b_eq (by simpa [Cv.later] using hs)]
  simp [Cv.later]
theorem later_h {c : Cv} {P : Nat → Nat → Bool} {k j : Nat} : (c.later P k).h j = c.h (k + j) := by
  simp [Cv.later, Cv.h, List.getD_eq_getElem?_getD, List.getElem?_drop]
theorem later_loss {c : Cv} {P : Nat → Nat → Bool} {k s : Nat} (hs : s < c.bs.length) (w : Bool) (j : Nat) : lossF (c.later P k) (endT w (c.later P k)) s j = lossF c (endT w c) s (k + j) := by
  simp only [lossF, later_b hs, later_h, end_melt, end_wear]
  rfl
theorem later_bef {c : Cv} {P Q : Nat → Nat → Bool} {k s : Nat} (hs : s < c.bs.length) (w : Bool) (hQ : ∀ j, Q j s = P (k + j) s) : ∀ j, befF (c.later P k) (endT w (c.later P k)) Q s j = befF c (endT w c) P s (k + j)
  | 0 => by
    simp only [befF, end_thick, later_b hs, Nat.add_zero]
    cases w <;> rfl
  | j + 1 => by
    simp only [← Nat.add_assoc, befF, later_bef hs w hQ j, later_loss hs, hQ, end_layer]
    rfl
theorem later_asks {c : Cv} {P : Nat → Nat → Bool} {k : Nat} (j : Nat) : asks (c.later P k) j = asks c (k + j) := by
  simp only [asks, later_h]; rfl
theorem later_len {c : Cv} {P : Nat → Nat → Bool} {k : Nat} : (c.later P k).bs.length = c.bs.length := by simp [Cv.later]
theorem later_thL {c : Cv} {P Q : Nat → Nat → Bool} {k : Nat} (hQ : ∀ j s, Q j s = P (k + j) s) (j : Nat) : ∀ {i : Nat}, i ≤ c.bs.length → thL (c.later P k) (endT true (c.later P k)) Q j i = thL c (endT true c) P (k + j) i
  | 0, _ => rfl
  | i + 1, hi => by
    have e : tooF (c.later P k) (endT true (c.later P k)) Q j i = tooF c (endT true c) P (k + j) i := by
      simp only [tooF, later_bef (show i < c.bs.length by omega) true (fun j => hQ j i), later_loss (show i < c.bs.length by omega), later_asks]
    rw [thL_succ, thL_succ, later_thL hQ j (by omega), e]
theorem later_thP {c : Cv} {P Q : Nat → Nat → Bool} {k : Nat} (hQ : ∀ j s, Q j s = P (k + j) s) : ∀ n, thP c (endT true c) P (k + n) = thP c (endT true c) P k ++ (thP (c.later P k) (endT true (c.later P k)) Q n).map fun (x : Int × Int) => (x.1 + (k : Int), x.2)
  | 0 => by simp [thP]
  | n + 1 => by
    rw [← Nat.add_assoc, thP, later_thP hQ n, thP, later_thL hQ n (by rw [later_len]; exact Nat.le_refl _), later_len]
    simp only [List.map_append, List.append_assoc, List.map_map]
    congr 2
    apply List.map_congr_left
    intro s _
    simp; omega
theorem thP_lt {c : Cv} {t : Tn} {P : Nat → Nat → Bool} {n : Nat} {x : Int × Int} (h : x ∈ thP c t P n) : 0 ≤ x.1 ∧ x.1 < n := by
  obtain ⟨a, s, h1, _, _, rfl⟩ := thP_mem.1 h
  simp; omega
theorem till_bef {c : Cv} {k s : Nat} (w : Bool) (P : Nat → Nat → Bool) : ∀ {j : Nat}, j ≤ k → k ≤ c.hs.length → befF (c.till k) (endT w (c.till k)) P s j = befF c (endT w c) P s j
  | 0, _, _ => by simp only [befF, end_thick]; rfl
  | j + 1, hj, hk => by
    have e : (c.till k).h j = c.h j := by
      rw [Cv.h_eq (by simp [Cv.till]; omega), Cv.h_eq (by omega)]
      simp [Cv.till]
    have e2 : lossF (c.till k) (endT w (c.till k)) s j = lossF c (endT w c) s j := by
      simp only [lossF, end_melt, end_wear, e]; rfl
    simp only [befF, till_bef w P (show j ≤ k by omega) hk, e2, end_layer]
    rfl
theorem till_ok {c : Cv} {n k : Nat} (hc : c.ok n) (h0 : 0 < k) (hk : k ≤ c.hs.length) : (c.till k).ok n := by
  have h8 := hc.hours
  refine ⟨hc.len, by simp [Cv.till]; omega, hc.bok, fun i hi => ?_, hc.rul⟩
  simp only [Cv.till, List.length_take] at hi
  simp only [Cv.till, List.getElem_take]
  exact hc.hok i (by omega)
theorem PlAt.drop {h : Heap} {pid off n : Nat} {ex : Bool} {L : Nat → List Int} (hp : PlAt h (.slice pid off n 1 ex) n L) {k : Nat} (hk : k ≤ n) (ex' : Bool) : PlAt h (.slice pid (off + k) (n - k) 1 ex') (n - k) (fun j => L (k + j)) := by
  obtain ⟨_, _, _, vs, e, hr, hv⟩ := hp
  cases e
  refine ⟨pid, off + k, ex', fun j => vs (k + j), rfl, ?_, fun j hj => hv (k + j) (by omega)⟩
  have := rd_sub' hr k ((n - k) * 1) (by omega)
  rw [this]
  congr 1
  apply List.ext_getElem
  · simp
  · intro i h1 h2; simp
theorem PlAt.take {h : Heap} {pid off n : Nat} {ex : Bool} {L : Nat → List Int} (hp : PlAt h (.slice pid off n 1 ex) n L) {k : Nat} (hk : k ≤ n) (ex' : Bool) : PlAt h (.slice pid off k 1 ex') k L := by
  obtain ⟨_, _, _, vs, e, hr, hv⟩ := hp
  cases e
  refine ⟨pid, off, ex', vs, rfl, ?_, fun j hj => hv j (by omega)⟩
  have := rd_sub' hr 0 (k * 1) (by omega)
  rw [Nat.add_zero] at this
  rw [this]
  congr 1
  apply List.ext_getElem
  · simp; omega
  · intro i h1 h2; simp
theorem okPl.later {c : Cv} {P : Nat → Nat → Bool} {k : Nat} {L : Nat → List Int} (h : okPl c L) : okPl (c.later P k) (fun j => L (k + j)) := by
  intro j hj
  have hj2 : k + j < c.hs.length := by simp [Cv.later] at hj; omega
  have := h (k + j) hj2
  simp only [handsF, later_h, later_len] at this ⊢
  exact this
theorem okPl.till {c : Cv} {k : Nat} {L : Nat → List Int} (h : okPl c L) (hk : k ≤ c.hs.length) : okPl (c.till k) L := by
  intro j hj
  have hj2 : j < k := by simp [Cv.till] at hj; omega
  have := h j (by omega)
  have e : (c.till k).h j = c.h j := by
    rw [Cv.h_eq (by simp [Cv.till]; omega), Cv.h_eq (by omega)]
    simp [Cv.till]
  simp only [handsF, e] at this ⊢
  exact this
end Go.Proofs
/- A memory of any form. -/
namespace Go.Proofs
open Go.Abs
attribute [local simp] AOp.den AOpd.ev lk cellsOf rd_new rd_new0 rd_zero rd_succ wr_new wr_new0 wr_zero wr_succ splice fillA binA scal sliceCells List.length_append argsT AV.sc scL AObj.sc resV getAll AR.get AOp.slots opdSlots opdsSlots partSlots eqAt at_new0 at_new set_new0 set_new wrap64
set_option linter.unusedSimpArgs false
set_option linter.unusedVariables false
theorem gen_ops {P : Program} {l : List AO} {K : St → Prop} {t : List (Nat × AV)} {h : Heap} (F : List (Nat × AV) → Heap → Prop) (hF : F t h) (hn : ∀ t h, F t h → EOps P l K t h) : EOps P l K t h := hn t h hF
end Go.Proofs
/- Ice: hours that go on; the law's contract, whole. -/
namespace Go.Proofs
open Go.Abs
attribute [local simp] AOp.den AOpd.ev lk cellsOf rd_new rd_new0 rd_zero rd_succ wr_new wr_new0 wr_zero wr_succ splice fillA binA scal sliceCells List.length_append argsT AV.sc scL AObj.sc resV getAll AR.get AOp.slots opdSlots opdsSlots partSlots eqAt at_new0 at_new set_new0 set_new wrap64
set_option linter.unusedSimpArgs false
set_option linter.unusedVariables false
def lbR (c D : Cv) (i j : Nat) : List AV := (if j < i then D.b j else c.b j).av
theorem plain_lb (c D : Cv) (i : Nat) : PlainRow 3 (lbR c D i) := ⟨fun _ => rfl, fun _ => ⟨rfl, fun _ => rfl, fun _ => rfl⟩⟩
theorem lb_put {c D : Cv} {n i : Nat} (hi : i < n) (hs : (D.b i).sun = (c.b i).sun) : splice (avR (lbR c D i) n) (i * 3) [.int .i64 (D.b i).lo, .int .i64 (D.b i).hi] = avR (lbR c D (i + 1)) n := by
  have := (plain_lb c D i).put (plain_lb c D (i + 1)) (n := n) (i := i) (c := 0) (xs := [.int .i64 (D.b i).lo, .int .i64 (D.b i).hi]) hi (by simp) (by
    simp only [lbR, if_pos (Nat.lt_succ_self i), if_neg (Nat.lt_irrefl i), Bd.av, splice, hs]; rfl) (fun j hj hne => by
    simp only [lbR]
    by_cases h : j < i
    · rw [if_pos h, if_pos (by omega)]
    · rw [if_neg h, if_neg (by omega)])
  rwa [Nat.add_zero] at this
theorem PAt.get {h : Heap} {v : AV} {l : List (Int × Int)} (hl : RAt h 2 v (pv l) l.length) {i : Nat} (hi : i < l.length) : ∃ id off ex, v = .slice id off l.length 2 ex ∧ rd h id (off + i * 2) 2 = some [.int .i64 l[i].1, .int .i64 l[i].2] ∧ id < h.length := by
  obtain ⟨id, off, ex, rfl, hh⟩ := RAt.slice hl (by omega)
  refine ⟨id, off, ex, rfl, ?_, rd_lt hh⟩
  exact rd_row (f := fun p : Int × Int => [AV.int .i64 p.1, AV.int .i64 p.2]) (fun _ => rfl) hh hi
theorem flat_drop {α : Type} {f : α → List AV} {m : Nat} (hf : ∀ a, (f a).length = m) : ∀ (l : List α) (k : Nat), (l.flatMap f).drop (k * m) = (l.drop k).flatMap f
  | [], k => by simp
  | a :: l, 0 => by simp
  | a :: l, k + 1 => by
    rw [List.flatMap_cons, List.drop_append, List.drop_eq_nil_of_le (by rw [hf, Nat.add_mul]; omega), List.nil_append, hf, Nat.add_mul, Nat.one_mul, Nat.add_sub_cancel, flat_drop hf l k]
    rfl
theorem later_hlen {c : Cv} {P : Nat → Nat → Bool} {k : Nat} : (c.later P k).hs.length = c.hs.length - k := by simp [Cv.later]
theorem flat_len {α : Type} {f : α → List AV} {m : Nat} (hf : ∀ a, (f a).length = m) (l : List α) : (l.flatMap f).length = l.length * m := by
  induction l with
  | nil => simp
  | cons a l ih => rw [List.flatMap_cons, List.length_append, ih, hf, List.length_cons, Nat.add_mul]; omega
theorem till_at {H : Heap} {c : Cv} {p : Plc} (hp : CvAt H c p) {k : Nat} (hk : k ≤ c.hs.length) (hex : Bool) : CvAt H (c.till k) { p with hex := hex } := by
  refine ⟨hp.t, hp.b, ?_⟩
  have e : (c.till k).hs.length = k := by simp [Cv.till]; omega
  rw [e]
  have h1 := rd_sub' hp.h 0 (k * 5) (by omega)
  rw [Nat.add_zero] at h1
  show rd H p.hid p.hoff (k * 5) = _
  rw [h1]
  simp only [List.drop_zero, Cv.till, Option.some.injEq]
  have h2 : c.hs.flatMap Hr.av = (c.hs.take k).flatMap Hr.av ++ (c.hs.drop k).flatMap Hr.av := by rw [← List.flatMap_append, List.take_append_drop]
  rw [h2]
  exact List.take_left' (by rw [flat_len Hr.av_length, List.length_take]; congr 1; omega)
theorem later_at {H X : Heap} {c : Cv} {p : Plc} (hp : CvAt H c p) {P : Nat → Nat → Bool} {k : Nat} (hk : k ≤ c.hs.length) (hX : ∀ i, i < H.length → X[i]? = H[i]?) (hl : H.length ≤ X.length) {tid bid tn : Nat} (htid : tid < X.length) (hb : X[bid]? = some (.cells (avR (lbR c (c.later P k) c.bs.length) c.bs.length) true)) :
    CvAt X (c.later P k) ⟨tid, 0, false, tn, bid, 0, false, p.hid, p.hoff + k * 5, p.hex⟩ := by
  have e : avR (lbR c (c.later P k) c.bs.length) c.bs.length = (c.later P k).bs.flatMap Bd.av := by
    rw [flat_bd, later_len]
    exact avR_congr fun j hj => by simp only [lbR, if_pos hj, bdR]
  refine ⟨htid, ?_, ?_⟩
  · rw [e] at hb
    have := flat_len Bd.av_length (c.later P k).bs
    exact rd_full hb this
  · have h1 : rd X p.hid p.hoff (c.hs.length * 5) = some (c.hs.flatMap Hr.av) := by
      have := hp.h
      have h2 := rd_lt this
      unfold rd at this ⊢
      rw [hX _ h2]; exact this
    rw [later_hlen, rd_sub' h1 (k * 5) ((c.hs.length - k) * 5) (by omega), flat_drop Hr.av_length]
    have := flat_len Hr.av_length (c.hs.drop k)
    rw [List.take_of_length_le (by rw [this, List.length_drop]; omega)]
    rfl
set_option maxHeartbeats 4000000 in
theorem c_lawGoesOn (H : Heap) (l : List Str) (c : Cv) (p : Plc) (us : List Int) (at_ : Int) (uid uoff : Nat) (uex : Bool) (hp : CvAt H c p) (ht : TrAt H l p) (hn : (l.length : Int) ≤ 9223372036854775807) (hn1 : (c.bs.length : Int) ≤ 9223372036854775807) (hn2 : (c.hs.length : Int) ≤ 9223372036854775807)
    (hb : rd H uid uoff us.length = some (us.map (.int .u32))) (ha : 0 ≤ at_ ∧ at_ ≤ 255) (hu : ∀ u ∈ us, 0 ≤ u ∧ u ≤ 4294967295) (hun : (us.length : Int) ≤ 9223372036854775807) :
    ACalls Try.prog F.law02_IceGoesOn [.agg (c.av p), .slice uid uoff us.length 1 uex, .int .u8 at_] H (fun v _ => v = .bool true) := by
  have hp1 := hp.t
  have hp2 := rd_lt hp.b
  have hp3 := rd_lt hp.h
  have huid := rd_lt hb
  have kr := fun G => c_ready2 (H ++ G) l c p (hp.app G) (ht.app G) hn hn1 hn2
  have kd := fun G hc hv => c_drawn2 (H ++ G) l c p (hp.app G) hc hv us 0 uid uoff uex (by rw [rd_old _ huid]; exact hb) hu hun (by omega)
  simp only [Cv.av] at kr kd
  refine acalls_of ok_law02_IceGoesOn rfl fun hcl => ?_
  unfold ac_law02_IceGoesOn
  simp only [argsT, Nat.zero_add, Nat.reduceAdd]
  have hcav : c.av p = c.av p := rfl
  conv at hcav => lhs; simp only [Cv.av]
  simp only [Cv.av]
  repeat (first|(with_reducible first|apply X1|apply X2|apply X8)|((with_reducible apply e_end);(simp;exact Red.rfl))|((with_reducible apply O1);rfl;(simp (disch:=omega);exact Red.rfl);exact Red.rfl;(focus (first|(simp;done)|omega|(simp;omega)))))
  (with_reducible apply e_call); (simp; exact Red.rfl); exact c_aliveI _
  rintro _ _ ⟨rfl, rfl⟩
  repeat (first|(with_reducible first|apply X1|apply X2|apply X5|apply X8)|((with_reducible apply e_end);(simp;exact Red.rfl))|((with_reducible apply O1);rfl;(simp (disch:=omega);exact Red.rfl);exact Red.rfl;(focus (first|(simp;done)|omega|(simp;omega))))|((with_reducible apply W3);(simp (disch:=omega);exact Red.rfl)))
  (with_reducible apply e_call); (simp; exact Red.rfl); exact kr _
  rintro _ _ ⟨rfl, b, rfl, hrd⟩
  cases b with
  | false =>
    repeat (first|(with_reducible first|apply X1|apply X2|apply X3|apply X8|apply X9)|((with_reducible apply e_end);(simp;exact Red.rfl))|((with_reducible apply O1);rfl;(simp (disch:=omega);exact Red.rfl);exact Red.rfl;(focus (first|(simp;done)|omega|(simp;omega))))|((with_reducible apply Z9);(simp (disch:=omega);exact Red.rfl)))
    exact q_stay (.inr rfl) (by simp; exact Red.rfl) rfl
  | true =>
  obtain ⟨hv, hc⟩ := hrd.1 rfl
  have h12 := hv.1
  have hlen := hc.len
  have h8 := hc.hours
  repeat (first|(with_reducible first|apply X1|apply X2|apply X5|apply X8)|((with_reducible apply e_end);(simp;exact Red.rfl))|((with_reducible apply O1);rfl;(simp (disch:=omega);exact Red.rfl);exact Red.rfl;(focus (first|(simp;done)|omega|(simp;omega))))|((with_reducible apply W3);(simp (disch:=omega);exact Red.rfl)))
  (with_reducible apply e_call); (simp; exact Red.rfl); exact kd _ hc hv
  rintro pl _ ⟨G, rfl, hpl⟩
  have hokp := plnL_okPl hc us 0
  generalize hL : (fun h => plnL c us 0 h c.bs.length) = L at *
  obtain ⟨k, hk, hkm⟩ : ∃ k : Nat, k < c.hs.length ∧ at_.tmod c.hs.length = k := by
    refine ⟨(at_ % c.hs.length).toNat, ?_, ?_⟩
    · have := Int.emod_lt_of_pos at_ (show (0 : Int) < c.hs.length by omega)
      have := Int.emod_nonneg at_ (show (c.hs.length : Int) ≠ 0 by omega)
      omega
    · rw [Int.tmod_eq_emod_of_nonneg ha.1, Int.toNat_of_nonneg (Int.emod_nonneg at_ (by omega))]
  have hne : c.hs ≠ [] := by intro h; rw [h] at h8; simp at h8
  have htw := fun G => c_r2Twin (H ++ G) l c p (hp.app G) (ht.app G) (by omega) (by omega) (by omega)
  simp only [Cv.av, twP] at htw
  have hk2 : k ≤ c.hs.length := by omega
  repeat (first|(with_reducible first|apply X1|apply X2|apply X8)|((with_reducible apply e_end);(simp;exact Red.rfl))|((with_reducible apply O1);rfl;(simp (disch:=omega) [hkm, hne];exact Red.rfl);exact Red.rfl;(focus (first|(simp;done)|omega|(simp;omega)))))
  (with_reducible apply e_call); (simp; exact Red.rfl); exact htw _
  rintro _ _ ⟨rfl, rfl⟩
  repeat (first|(with_reducible first|apply X1|apply X2|apply X6|apply X8)|((with_reducible apply e_end);(simp;exact Red.rfl))|((first|((with_reducible apply O1);rfl)|((with_reducible apply O2);rfl));(simp (disch:=omega) [hk2];exact Red.rfl);exact Red.rfl;(focus (first|(simp;done)|omega|(simp;omega)))))
  have kt := fun T s h hs hh => c_iThickV (H ++ AObj.cells (c.av p) true :: (G ++ T)) l c p (hp.app _) (ht.app _) hv hc pl L (by have := hpl.app T; simpa [Cv.av] using this) hokp s h hs hh
  simp only [Cv.av] at kt
  have hD : ∀ s, s < c.bs.length → (c.later (inP L) k).b s = ⟨befF c (endT true c) (inP L) s k, befF c (endT false c) (inP L) s k, (c.b s).sun⟩ := fun s hs => later_b hs
  rw [flat_bd]
  refine e_loop (ι := { x : Nat × Heap // x.1 ≤ c.bs.length })
    (fun x => [(3, .ptr H.length 0), (7, .bool true), (8, pl), (9, .int .i64 k), (10, .ptr (H.length + (G.length + 3 + 1)) 0), (56, .int .i64 c.bs.length), (57, .int .i64 x.1.1)])
    (fun x => H ++ AObj.cells (c.av p) true :: (G ++ AObj.cells (l.flatMap Str.av) true :: AObj.cells (avR (lbR c (c.later (inP L) k) x.1.1) c.bs.length) true :: AObj.cells (c.hs.flatMap Hr.av) true :: AObj.cells [.slice (H.length + (G.length + 1)) 0 l.length 9 false, .slice (H.length + (G.length + 1) + 1) 0 c.bs.length 3 false, .slice p.hid (p.hoff + k * 5) (c.hs.length - k) 5 p.hex, .int .i64 c.w1, .int .i64 c.w2, .int .i64 c.y1, .int .i64 c.y2, .int .i64 c.rate, .int .i64 c.lim, .int .i64 c.base] true :: x.1.2)) (fun x => c.bs.length - x.1.1) ⟨(0, []), by simp⟩ ?_ ?_
  · simp only [Cv.av]
    exact .inl rfl
  · rintro ⟨⟨i, K⟩, hi⟩
    dsimp only at hi ⊢
    simp only [Cv.av]
    by_cases hlt : i < c.bs.length
    · have hlt2 : (i : Int) < c.bs.length := by omega
      have hD := hD i hlt
      have hl := (plain_lb c (c.later (inP L) k) i).length c.bs.length
      have hput := lb_put (c := c) (D := c.later (inP L) k) (n := c.bs.length) hlt (by rw [hD])
      have le1 : i * 3 + 2 ≤ c.bs.length * 3 := by omega
      rw [hD] at hput
      dsimp only at hput
      repeat (first|(with_reducible first|apply X1|apply X2|apply X5|apply X6|apply X8)|((with_reducible apply e_end);(simp;exact Red.rfl))|((with_reducible apply O1);rfl;(simp (disch:=omega) [hlt2];exact Red.rfl);exact Red.rfl;(focus (first|(simp;done)|omega|(simp;omega))))|((with_reducible apply Z9);(simp (disch:=omega) [hlt2];exact Red.rfl)))
      (with_reducible apply e_call); (simp; exact Red.rfl); exact kt _ i k hlt (by omega)
      rintro _ _ ⟨rfl, rfl⟩
      repeat (first|(with_reducible first|apply X1|apply X2|apply X5|apply X8)|((with_reducible apply e_end);(simp;exact Red.rfl))|((first|((with_reducible apply O1);rfl)|((with_reducible apply O2);rfl));(simp (disch:=omega) [hlt, hlt2];exact Red.rfl);exact Red.rfl;(focus (first|(simp;done)|omega|(simp;omega))))|((with_reducible apply W3);(simp (disch:=omega) [hlt, hlt2];exact Red.rfl)))
      repeat (first|(with_reducible first|apply X2|apply X8|apply Y2)|((with_reducible apply e_end);(simp;exact Red.rfl))|((first|((with_reducible apply O1);rfl)|((with_reducible apply O2);rfl));(simp (disch:=omega) [Nat.add_assoc, hl, le1, -splice, hput];exact Red.rfl);exact Red.rfl;(focus (first|(simp;done)|omega|(simp;omega)))))
      exact q_again ⟨(i + 1, _), by omega⟩ (by dsimp only; omega) (.inl rfl)
    · have hlt2 : ¬ (i : Int) < c.bs.length := by omega
      obtain rfl : i = c.bs.length := by omega
      repeat (first|(with_reducible first|apply X1|apply X2|apply X4|apply X8|apply Y1|apply Y4|apply Y6)|((with_reducible apply e_end);(simp;exact Red.rfl))|((with_reducible apply O1);rfl;(simp (disch:=omega) [hlt2];exact Red.rfl);exact Red.rfl;(focus (first|(simp;done)|omega|(simp;omega))))|((with_reducible apply W3);(simp (disch:=omega) [hlt2];exact Red.rfl)))
      refine gen_ops (fun t X => ∃ (q : Nat) (p2 : Plc), t = [(77, .agg ((c.later (inP L) k).av p2)), (3, .ptr H.length 0), (7, .bool true), (8, pl), (9, .int .i64 k), (10, .ptr q 0), (56, .int .i64 c.bs.length), (57, .int .i64 c.bs.length), (58, .bool false)] ∧
        CvAt X c p ∧ TrAt X l p ∧ PlAt X pl c.hs.length L ∧ CvAt X (c.later (inP L) k) p2 ∧ TrAt X l p2 ∧ rd X H.length 0 10 = some (c.av p) ∧ rd X q 0 10 = some ((c.later (inP L) k).av p2)) ?_ ?_
      · refine ⟨_, ⟨H.length + (G.length + 1), 0, false, l.length, H.length + (G.length + 1) + 1, 0, false, p.hid, p.hoff + k * 5, p.hex⟩, by simp only [Cv.av, later_len, later_hlen]; rfl, hp.app _, ht.app _, ?_, ?_, ?_, ?_, ?_⟩
        · have := hpl.app (AObj.cells (l.flatMap Str.av) true :: AObj.cells (avR (lbR c (c.later (inP L) k) c.bs.length) c.bs.length) true :: AObj.cells (c.hs.flatMap Hr.av) true :: AObj.cells [.slice (H.length + (G.length + 1)) 0 l.length 9 false, .slice (H.length + (G.length + 1) + 1) 0 c.bs.length 3 false, .slice p.hid (p.hoff + k * 5) (c.hs.length - k) 5 p.hex, .int .i64 c.w1, .int .i64 c.w2, .int .i64 c.y1, .int .i64 c.y2, .int .i64 c.rate, .int .i64 c.lim, .int .i64 c.base] true :: K)
          simpa using this
        · exact later_at hp hk2 (fun i hi => by rw [List.getElem?_append_left hi]) (by simp) (by simp) (by simp [at_new, Nat.add_assoc])
        · exact ⟨rfl, rd_full (b := true) (by simp [at_new, Nat.add_assoc]) (flat_len Str.av_length l)⟩
        · simp [Cv.av]
        · simp [Cv.av, later_len, later_hlen, Nat.add_assoc]
          exact ⟨rfl, rfl, rfl, rfl, rfl, rfl, rfl⟩
      rintro _ X ⟨q, p2, rfl, hpX, htX, hplX, hpD, htD, hbX, hbD⟩
      clear hpl kt
      have hl1 := later_len (c := c) (P := inP L) (k := k)
      have hl2 := later_hlen (c := c) (P := inP L) (k := k)
      have kr2 := fun T => c_ready2 (X ++ T) l (c.later (inP L) k) p2 (hpD.app T) (htD.app T) hn (by omega) (by omega)
      have kr20 := kr2 []
      rw [List.append_nil] at kr20
      (with_reducible apply e_call); (simp; exact Red.rfl); exact kr20
      rintro _ hqh ⟨hqe, b, rfl, hrd2⟩
      rw [hqe]; clear hqe hqh
      cases b with
      | false =>
        repeat (first|(with_reducible first|apply X1|apply X2|apply X3|apply X8|apply X9)|((with_reducible apply e_end);(simp;exact Red.rfl))|((with_reducible apply O1);rfl;(simp (disch:=omega);exact Red.rfl);exact Red.rfl;(focus (first|(simp;done)|omega|(simp;omega))))|((with_reducible apply Z9);(simp (disch:=omega);exact Red.rfl)))
        exact q_stay (.inr rfl) (by simp; exact Red.rfl) rfl
      | true =>
      obtain ⟨_, hcD⟩ := hrd2.1 rfl
      clear hrd2 kr2 kr20
      obtain ⟨pid, poff, pex, rfl, hpid, hrow⟩ := hplX.get
      have hplD : PlAt X (.slice pid (poff + k) (c.hs.length - k) 1 pex) (c.later (inP L) k).hs.length (fun j => L (k + j)) := by rw [hl2]; exact hplX.drop hk2 pex
      have kt := fun T s h hs hh => c_iThickV (X ++ T) l c p (hpX.app T) (htX.app T) hv hc _ L (hplX.app T) hokp s h hs hh
      have ktD := fun T s h hs hh => c_iThickV (X ++ T) l (c.later (inP L) k) p2 (hpD.app T) (htD.app T) hv hcD _ _ (hplD.app T) hokp.later s h hs hh
      have hbL := rd_lt hbX
      have hd1 := hpD.t
      have hd2 := rd_lt hpD.b
      have hd3 := rd_lt hpD.h
      have hx1 := hpX.t
      have hx2 := rd_lt hpX.b
      have hx3 := rd_lt hpX.h
      have hqL := rd_lt hbD
      have hb1 := rd_sub' hbX 1 1 (by omega)
      have hb2 := rd_sub' hbX 2 1 (by omega)
      simp only [Cv.av, List.drop_succ_cons, List.drop_zero, List.take_succ_cons, List.take_zero] at hb1 hb2
      simp only [Cv.av, hl1, hl2] at kt ktD hbX hbD
      repeat (first|(with_reducible first|apply X1|apply X2|apply X5|apply X6|apply X8)|((with_reducible apply e_end);(simp;exact Red.rfl))|((with_reducible apply O1);rfl;(simp (disch:=omega) [hb1];exact Red.rfl);exact Red.rfl;(focus (first|(simp;done)|omega|(simp;omega))))|((with_reducible apply W3);(simp (disch:=omega) [hb1];exact Red.rfl)))
      refine e_loop (ι := { x : Nat × Heap // x.1 ≤ c.bs.length })
        (fun x => [(3, .ptr H.length 0), (7, .bool true), (8, .slice pid poff c.hs.length 1 pex), (9, .int .i64 k), (10, .ptr q 0), (83, .int .i64 c.bs.length), (84, .int .i64 x.1.1)])
        (fun x => X ++ x.1.2) (fun x => c.bs.length - x.1.1) ⟨(0, []), by simp⟩ ?_ ?_
      · rw [List.append_nil]; exact .inl rfl
      · rintro ⟨⟨i, K⟩, hi⟩
        dsimp only at hi ⊢
        by_cases hlt : i < c.bs.length
        · have hlt2 : (i : Int) < c.bs.length := by omega
          repeat (first|(with_reducible first|apply X1|apply X2|apply X5|apply X6|apply X8)|((with_reducible apply e_end);(simp;exact Red.rfl))|((with_reducible apply O1);rfl;(simp (disch:=omega) [hlt2];exact Red.rfl);exact Red.rfl;(focus (first|(simp;done)|omega|(simp;omega))))|((with_reducible apply Z9);(simp (disch:=omega) [hlt2];exact Red.rfl)))
          refine e_loop (ι := { y : Nat × Heap // k ≤ y.1 ∧ y.1 ≤ c.hs.length + 1 })
            (fun y => [(3, .ptr H.length 0), (7, .bool true), (8, .slice pid poff c.hs.length 1 pex), (9, .int .i64 k), (10, .ptr q 0), (14, .int .i64 i), (15, .int .i64 y.1.1), (83, .int .i64 c.bs.length), (84, .int .i64 i)])
            (fun y => X ++ y.1.2) (fun y => c.hs.length + 1 - y.1.1) ⟨(k, K), by omega, by omega⟩ ?_ ?_
          · exact .inl rfl
          · rintro ⟨⟨h, K⟩, hkh, hh⟩
            dsimp only at hkh hh ⊢
            by_cases hle : h ≤ c.hs.length
            · have hle2 : (h : Int) ≤ c.hs.length := by omega
              have e0 : (h : Int) - k = ((h - k : Nat) : Int) := by omega
              have e1 : ∀ w, befF (c.later (inP L) k) (endT w (c.later (inP L) k)) (inP fun j => L (k + j)) i (h - k) = befF c (endT w c) (inP L) i h := fun w => by
                have := later_bef (c := c) (P := inP L) (Q := inP fun j => L (k + j)) (k := k) hlt w (fun j => rfl) (h - k)
                rwa [show k + (h - k) = h by omega] at this
              have ktD := fun T => ktD T i (h - k) hlt (by omega)
              simp only [e1] at ktD
              have kt := fun T => kt T i h hlt hle
              repeat (first|(with_reducible first|apply X1|apply X2|apply X5|apply X6|apply X8)|((with_reducible apply e_end);(simp;exact Red.rfl))|((with_reducible apply O1);rfl;(simp (disch:=omega) [rd_old _ hbL, hb2, hle2];exact Red.rfl);exact Red.rfl;(focus (first|(simp;done)|omega|(simp;omega))))|((with_reducible apply Z9);(simp (disch:=omega) [rd_old _ hbL, hb2, hle2];exact Red.rfl)))
              repeat ((with_reducible apply O1);rfl;(simp (disch:=omega) [rd_old _ hbL, hbX];exact Red.rfl);exact Red.rfl;(focus (first|(simp;done)|omega|(simp;omega))))
              (with_reducible apply e_call); (simp; exact Red.rfl); exact kt _
              rintro _ _ ⟨rfl, rfl⟩
              repeat (first|(with_reducible first|apply X1|apply X8|apply Y9)|((with_reducible apply e_end);(simp;exact Red.rfl))|((first|((with_reducible apply O1);rfl)|((with_reducible apply O2);rfl)|((with_reducible apply P1);rfl)|((with_reducible apply P2);rfl));(simp (disch:=omega) [rd_old _ hqL, hbD, hk2, e0];exact Red.rfl);exact Red.rfl;(focus (first|(simp;done)|omega|(simp;omega)))))
              (with_reducible apply d_call); (simp; exact Red.rfl); exact ktD _; (focus (first | (simp; done) | (simp; omega)))
              repeat (first|(with_reducible first|apply X1|apply X2|apply X5|apply X8|apply Y2)|((with_reducible first|apply e_end|apply d_end);(simp;exact Red.rfl))|((first|((with_reducible apply O1);rfl)|((with_reducible apply P1);rfl)|((with_reducible apply P3);rfl)|((with_reducible apply P4);rfl));(simp (disch:=omega);exact Red.rfl);exact Red.rfl;(focus (first|(simp;done)|omega|(simp;omega))))|((with_reducible apply Z7);(simp (disch:=omega);exact Red.rfl))|((with_reducible apply W3);(simp (disch:=omega);exact Red.rfl)))
              refine q_again ⟨(h + 1, K ++ [.cells [.int .i64 (befF c (endT true c) (inP L) i h), .int .i64 (befF c (endT false c) (inP L) i h)] true, .cells [.int .i64 (befF c (endT true c) (inP L) i h), .int .i64 (befF c (endT false c) (inP L) i h)] true]), by dsimp only; omega, by dsimp only; omega⟩ (by dsimp only; omega) (.inl ?_)
              simp
            · have hle2 : ¬ (h : Int) ≤ c.hs.length := by omega
              repeat (first|(with_reducible first|apply X1|apply X2|apply X4|apply X8|apply Y1|apply Y4|apply Y6)|((with_reducible apply e_end);(simp;exact Red.rfl))|((with_reducible apply O1);rfl;(simp (disch:=omega) [rd_old _ hbL, hb2, hle2];exact Red.rfl);exact Red.rfl;(focus (first|(simp;done)|omega|(simp;omega))))|((with_reducible apply W3);(simp (disch:=omega) [rd_old _ hbL, hb2, hle2];exact Red.rfl)))
              by_cases hk0 : k = 0
              · repeat (first|(with_reducible first|apply X2|apply X4|apply X8|apply Y1|apply Y4)|((with_reducible apply e_end);(simp;exact Red.rfl))|((with_reducible apply O1);rfl;(simp (disch:=omega) [hk0];exact Red.rfl);exact Red.rfl;(focus (first|(simp;done)|omega|(simp;omega))))|((with_reducible apply Z9);(simp (disch:=omega) [hk0];exact Red.rfl)))
                exact q_again ⟨(i + 1, K), by dsimp only; omega⟩ (by dsimp only; omega) (.inl (by simp [hk0]))
              · have e1 : ∀ w, befF (c.till k) (endT w (c.till k)) (inP L) i k = befF c (endT w c) (inP L) i k := fun w => till_bef w (inP L) (Nat.le_refl _) hk2
                have ktT := fun T => c_iThickV (X ++ T) l (c.till k) { p with hex := p.hex && decide (k = c.hs.length) } (till_at (hpX.app T) hk2 _) ⟨htX.n, (htX.app T).t⟩ hv (till_ok hc (by omega) hk2) (.slice pid poff k 1 (pex && decide ((k : Int) = c.hs.length))) L (by rw [show (c.till k).hs.length = k by simp [Cv.till]; omega]; exact (hplX.app T).take hk2 _) (hokp.till hk2) i k hlt (by simp [Cv.till]; omega)
                have ku := fun T => c_until2 (X ++ T) c p (hpX.app T) k hk2 (by omega)
                have kt := fun T => kt T i k hlt hk2
                have e2 : (c.till k).hs.length = k := by simp [Cv.till]; omega
                have e3 : (c.till k).bs.length = c.bs.length := rfl
                simp only [e1, Cv.av, e2, e3] at ktT ku
                repeat (first|(with_reducible first|apply X1|apply X2|apply X5|apply X8)|((with_reducible apply O1);rfl;(simp (disch:=omega) [hk0, rd_old _ hbL, hbX];exact Red.rfl);exact Red.rfl;(focus (first|(simp;done)|omega|(simp;omega))))|((with_reducible apply W3);(simp (disch:=omega) [hk0, rd_old _ hbL, hbX];exact Red.rfl)))
                (with_reducible apply e_call); (simp; exact Red.rfl); exact kt _
                rintro _ _ ⟨rfl, rfl⟩
                repeat (first|(with_reducible first|apply X1|apply X8|apply Y9)|((with_reducible apply e_end);(simp;exact Red.rfl))|((first|((with_reducible apply O1);rfl)|((with_reducible apply O2);rfl)|((with_reducible apply P1);rfl)|((with_reducible apply P2);rfl));(simp (disch:=omega) [rd_old _ hbL, hbX];exact Red.rfl);exact Red.rfl;(focus (first|(simp;done)|omega|(simp;omega)))))
                (with_reducible apply d_call); (simp; exact Red.rfl); exact ku _; (focus (first | (simp; done) | (simp; omega)))
                repeat ((with_reducible apply P1);rfl;(simp (disch:=omega) [hk2];exact Red.rfl);exact Red.rfl;(focus (first|(simp;done)|omega|(simp;omega))))
                (with_reducible apply d_call); (simp; exact Red.rfl); exact ktT _; (focus (first | (simp; done) | (simp; omega)))
                repeat (first|(with_reducible first|apply X1|apply X2|apply X5|apply X8|apply Y2)|((with_reducible first|apply e_end|apply d_end);(simp;exact Red.rfl))|((first|((with_reducible apply O1);rfl)|((with_reducible apply P1);rfl)|((with_reducible apply P3);rfl)|((with_reducible apply P4);rfl));(simp (disch:=omega);exact Red.rfl);exact Red.rfl;(focus (first|(simp;done)|omega|(simp;omega))))|((with_reducible apply Z7);(simp (disch:=omega);exact Red.rfl))|((with_reducible apply W3);(simp (disch:=omega);exact Red.rfl)))
                refine q_again ⟨(i + 1, K ++ [.cells [.int .i64 (befF c (endT true c) (inP L) i k), .int .i64 (befF c (endT false c) (inP L) i k)] true, .cells [.int .i64 (befF c (endT true c) (inP L) i k), .int .i64 (befF c (endT false c) (inP L) i k)] true]), by dsimp only; omega⟩ (by dsimp only; omega) (.inl ?_)
                simp
        · have hlt2 : ¬ (i : Int) < c.bs.length := by omega
          obtain rfl : i = c.bs.length := by omega
          have kT := fun T => c_iThinV (X ++ T) l c p (hpX.app T) (htX.app T) hv hc _ L (hplX.app T) hokp
          have kM := fun T => c_iThinV (X ++ T) l (c.later (inP L) k) p2 (hpD.app T) (htD.app T) hv hcD _ _ (hplD.app T) hokp.later
          have hsplit := later_thP (c := c) (P := inP L) (Q := inP fun j => L (k + j)) (k := k) (fun j s => rfl) (c.hs.length - k)
          rw [show k + (c.hs.length - k) = c.hs.length by omega] at hsplit
          have hAlt : ∀ x ∈ thP c (endT true c) (inP L) k, x.1 < k := fun x hx => (thP_lt hx).2
          have hMge : ∀ x ∈ thP (c.later (inP L) k) (endT true (c.later (inP L) k)) (inP fun j => L (k + j)) (c.hs.length - k), 0 ≤ x.1 := fun x hx => (thP_lt hx).1
          have hMlt : ∀ x ∈ thP c (endT true c) (inP L) c.hs.length, 0 ≤ x.1 ∧ x.1 < c.hs.length := fun x hx => thP_lt hx
          rw [hl2] at kM
          have hTb : (thP c (endT true c) (inP L) c.hs.length).length ≤ 8 * 12 := Nat.le_trans (thP_len _ _ _ _) (Nat.mul_le_mul (by omega) (by omega))
          generalize thP c (endT true c) (inP L) c.hs.length = T at *
          generalize thP c (endT true c) (inP L) k = A at *
          generalize thP (c.later (inP L) k) (endT true (c.later (inP L) k)) (inP fun j => L (k + j)) (c.hs.length - k) = M at *
          simp only [Cv.av, hl1, hl2] at kT kM
          repeat (first|(with_reducible first|apply X1|apply X2|apply X4|apply X8|apply Y1|apply Y4|apply Y6)|((with_reducible apply e_end);(simp;exact Red.rfl))|((with_reducible apply O1);rfl;(simp (disch:=omega) [hlt2];exact Red.rfl);exact Red.rfl;(focus (first|(simp;done)|omega|(simp;omega))))|((with_reducible apply W3);(simp (disch:=omega) [hlt2];exact Red.rfl)))
          repeat ((with_reducible apply O1);rfl;(simp (disch:=omega) [rd_old _ hbL, hbX];exact Red.rfl);exact Red.rfl;(focus (first|(simp;done)|omega|(simp;omega))))
          (with_reducible apply e_call); (simp; exact Red.rfl); exact kT _
          rintro _ _ ⟨rfl, rfl⟩
          repeat (first|(with_reducible first|apply X1|apply X8|apply Y9)|((with_reducible apply e_end);(simp;exact Red.rfl))|((first|((with_reducible apply O1);rfl)|((with_reducible apply P1);rfl)|((with_reducible apply P2);rfl));(simp (disch:=omega) [rd_old _ hqL, hbD, hk2];exact Red.rfl);exact Red.rfl;(focus (first|(simp;done)|omega|(simp;omega)))))
          (with_reducible apply d_call_); (simp; exact Red.rfl); exact kM _; (focus (first | (simp; done) | (simp; omega)))
          have hT1 := (ls_at (sz := 2) (X ++ K) (pv_length T)).app (lsO M.length (pv M))
          have hM1 := ls_at (sz := 2) (X ++ (K ++ lsO T.length (pv T))) (pv_length M)
          repeat (first|(with_reducible first|apply X1|apply X2|apply X8)|((with_reducible first|apply e_end|apply d_end);(simp;exact Red.rfl))|((first|((with_reducible apply O1);rfl)|((with_reducible apply P1);rfl));(simp (disch:=omega);exact Red.rfl);exact Red.rfl;(focus (first|(simp;done)|omega|(simp;omega)))))
          refine gen_ops (fun t Z => ∃ tv mv, t = [(174, tv), (7, .bool true), (9, .int .i64 k), (24, tv), (25, .int .i64 0), (26, mv), (27, .int .i64 0), (28, .int .i64 0)] ∧ RAt Z 2 tv (pv T) T.length ∧ RAt Z 2 mv (pv M) M.length) ⟨_, _, rfl, ?_, ?_⟩ ?_
          · have := hT1.l.r; simpa using this
          · have := hM1.l.r; simpa using this
          rintro _ Z ⟨tv, mv, rfl, hT, hM⟩
          have hTsc : ∀ k, tv.sc (Z.length + k) = true := fun k => hT.sc (by omega)
          have hMsc : ∀ k, mv.sc (Z.length + k) = true := fun k => hM.sc (by omega)
          have hlen : T.length = A.length + M.length := by rw [hsplit]; simp
          (with_reducible apply e_op); rfl; exact RAt.len hT _ (by simp); exact Red.rfl; trivial
          repeat (first|(with_reducible first|apply X6|apply X8)|((with_reducible apply e_end);(simp;exact Red.rfl))|((with_reducible apply O1);rfl;(simp (disch:=omega);exact Red.rfl);exact Red.rfl;(focus (first|(simp;done)|omega|(simp;omega)))))
          refine e_loop (ι := { y : Nat × Heap // y.1 ≤ T.length })
            (fun y => [(7, .bool true), (9, .int .i64 k), (25, .int .i64 0), (26, mv), (27, .int .i64 0), (28, .int .i64 ((y.1.1 - A.length : Nat) : Int)), (174, tv), (175, .int .i64 T.length), (176, .int .i64 y.1.1)])
            (fun y => Z ++ y.1.2) (fun y => T.length - y.1.1) ⟨(0, []), by simp⟩ ?_ ?_
          · rw [List.append_nil]; exact .inl (by simp)
          · rintro ⟨⟨j, K⟩, hj⟩
            dsimp only at hj ⊢
            by_cases hjl : j < T.length
            · have hjl2 : (j : Int) < T.length := by omega
              obtain ⟨id, off, ex, rfl, hx, hid⟩ := PAt.get hT hjl
              have hm := hMlt _ (List.getElem_mem hjl)
              by_cases hjA : j < A.length
              · have hxk : T[j].1 < k := by
                  have e : T[j] = A[j] := by
                    have : T[j] = (A ++ M.map fun (x : Int × Int) => (x.1 + (k : Int), x.2))[j]'(by simp; omega) := by congr 1
                    rw [this, List.getElem_append_left hjA]
                  rw [e]; exact hAlt _ (List.getElem_mem _)
                generalize T[j] = x at *
                obtain ⟨x1, x2⟩ := x
                dsimp only at hx hxk hm
                repeat (first|(with_reducible first|apply X1|apply X2|apply X4|apply X5|apply X6|apply X8|apply Y1|apply Y4)|((with_reducible apply e_end);(simp;exact Red.rfl))|((first|((with_reducible apply O1);rfl)|((with_reducible apply O2);rfl));(simp (disch:=omega) [hjl, hjl2, rd_old _ hid, hx, hxk];exact Red.rfl);exact Red.rfl;(focus (first|(simp;done)|omega|(simp;omega))))|((with_reducible apply Z9);(simp (disch:=omega) [hjl, hjl2, rd_old _ hid, hx, hxk];exact Red.rfl)))
                refine q_again ⟨(j + 1, K ++ [.cells [.int .i64 x1, .int .i64 x2] true]), by dsimp only; omega⟩ (by dsimp only; omega) (.inl ?_)
                simp; omega
              · have hjM : j - A.length < M.length := by omega
                have e : T[j] = (M[j - A.length].1 + k, M[j - A.length].2) := by
                  have : T[j] = (A ++ M.map fun (x : Int × Int) => (x.1 + (k : Int), x.2))[j]'(by simp; omega) := by congr 1
                  rw [this, List.getElem_append_right (by omega)]
                  simp
                obtain ⟨id', off', ex', rfl, hx', hid'⟩ := PAt.get hM hjM
                have hge := hMge _ (List.getElem_mem hjM)
                rw [e] at hx hm
                generalize M[j - A.length] = x at *
                obtain ⟨x1, x2⟩ := x
                dsimp only at hx hx' hge hm
                have hnk : ¬ x1 + (k : Int) < k := by omega
                have hnM : ¬ (M.length : Int) ≤ ((j - A.length : Nat) : Int) := by omega
                have hxk : x1 + (k : Int) - k = x1 := by omega
                repeat (first|(with_reducible first|apply X1|apply X2|apply X5|apply X6|apply X8|apply Y2|apply Y9)|((with_reducible first|apply e_end|apply d_end);(simp;exact Red.rfl))|((first|((with_reducible apply O1);rfl)|((with_reducible apply O2);rfl)|((with_reducible apply P1);rfl)|((with_reducible apply P2);rfl));(simp (disch:=omega) [hjl, hjl2, rd_old _ hid, hx, hnk, hnM, rd_old _ hid', hx', hjM];exact Red.rfl);exact Red.rfl;(focus (first|(simp;done)|omega|(simp;omega))))|((with_reducible first|apply Z8|apply Z9);(simp (disch:=omega) [hjl, hjl2, rd_old _ hid, hx, hnk, hnM, rd_old _ hid', hx', hjM];exact Red.rfl))|((with_reducible apply W3);(simp (disch:=omega) [hjl, hjl2, rd_old _ hid, hx, hnk, hnM, rd_old _ hid', hx', hjM];exact Red.rfl)))
                refine q_again ⟨(j + 1, K ++ [.cells [.int .i64 (x1 + k), .int .i64 x2] true]), by dsimp only; omega⟩ (by dsimp only; omega) (.inl ?_)
                simp; omega
            · have hjl2 : ¬ (j : Int) < T.length := by omega
              repeat (first|(with_reducible first|apply X1|apply X2|apply X4|apply X8|apply Y1|apply Y4|apply Y6)|((with_reducible apply e_end);(simp;exact Red.rfl))|((with_reducible apply O1);rfl;(simp (disch:=omega) [hjl2];exact Red.rfl);exact Red.rfl;(focus (first|(simp;done)|omega|(simp;omega))))|((with_reducible apply Z7);(simp (disch:=omega) [hjl2];exact Red.rfl))|((with_reducible apply W3);(simp (disch:=omega) [hjl2];exact Red.rfl)))
              (with_reducible apply e_op); rfl; exact RAt.len hM _ (by simp); exact Red.rfl; trivial
              have hfin : ((j - A.length : Nat) : Int) = M.length := by omega
              repeat (first|(with_reducible first|apply X3|apply X8)|((with_reducible apply e_end);(simp;exact Red.rfl))|((with_reducible apply O1);rfl;(simp (disch:=omega) [hfin];exact Red.rfl);exact Red.rfl;(focus (first|(simp;done)|omega|(simp;omega))))|((with_reducible apply Z7);(simp (disch:=omega) [hfin];exact Red.rfl)))
              exact q_stay (.inr rfl) (by simp; exact Red.rfl) rfl
end Go.Proofs
