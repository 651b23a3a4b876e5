/- Several texts as one. -/
import Derived.Test.YtkkcejiejlppeaaKA
import Derived.Test.YtkkcejiejlppeaaR5
import Derived.Test.YtkkcejiejlppeaaXY
/- The law IceBeside: stretches behind others. -/
namespace Go.Proofs
open Go.Abs
attribute [local simp] AOp.den AOpd.ev lk cellsOf rd_new rd_new0 rd_zero rd_succ wr_new wr_new0 wr_zero wr_succ splice fillA binA scal sliceCells List.length_append argsT AV.sc scL AObj.sc resV getAll AR.get AOp.slots opdSlots opdsSlots partSlots eqAt at_new0 at_new set_new0 set_new wrap64
set_option linter.unusedSimpArgs false
set_option linter.unusedVariables false
def Cv.more (c : Cv) (m : Nat) (b : Bd) : Cv := { c with bs := c.bs ++ List.replicate m b }
theorem more_len (c : Cv) (m : Nat) (b : Bd) : (c.more m b).bs.length = c.bs.length + m := by simp [Cv.more]
theorem more_b {c : Cv} {m s : Nat} {b : Bd} (hs : s < c.bs.length) : (c.more m b).b s = c.b s := by
  simp [Cv.more, Cv.b, List.getD_eq_getElem?_getD, List.getElem?_append_left hs]
theorem more_h (c : Cv) (m s : Nat) (b : Bd) : (c.more m b).h s = c.h s := rfl
theorem more_loss {c : Cv} {m s : Nat} {b : Bd} (hs : s < c.bs.length) (w : Bool) (h : Nat) : lossF (c.more m b) (endT w (c.more m b)) s h = lossF c (endT w c) s h := by
  cases w <;> simp only [lossF, endT, if_true, Bool.false_eq_true, if_false, more_b hs, more_h] <;> rfl
theorem more_asks (c : Cv) (m h : Nat) (b : Bd) : asks (c.more m b) h = asks c h := rfl
theorem more_bef {c : Cv} {m s : Nat} {b : Bd} (hs : s < c.bs.length) (w : Bool) (P : Nat → Nat → Bool) : ∀ h, befF (c.more m b) (endT w (c.more m b)) P s h = befF c (endT w c) P s h
  | 0 => by cases w <;> simp only [befF, endT, if_true, Bool.false_eq_true, if_false, more_b hs]
  | h + 1 => by
    have e : (endT w (c.more m b)).layer = (endT w c).layer := by cases w <;> rfl
    simp only [befF, more_bef hs w P h, more_loss hs, e]
theorem more_ic {c : Cv} {m s : Nat} {b : Bd} (hs : s < c.bs.length) : ∀ h, icF (c.more m b) s h = icF c s h
  | 0 => by simp only [icF, more_b hs]
  | h + 1 => by simp only [icF, more_ic hs h, more_loss hs]
theorem more_nd {c : Cv} {m s : Nat} {b : Bd} (hs : s < c.bs.length) : ∀ h, ndF (c.more m b) s h = ndF c s h
  | 0 => rfl
  | h + 1 => by
    have e : (c.more m b).y1 = c.y1 := rfl
    simp only [ndF, more_nd hs h, more_ic hs, more_asks, e]
theorem more_okPl {c : Cv} {m : Nat} {b : Bd} {L : Nat → List Int} (h : okPl c L) : okPl (c.more m b) L := fun k hk => by
  obtain ⟨h1, h2⟩ := h k hk
  refine ⟨h1, fun i hi => ?_⟩
  obtain ⟨h3, h4⟩ := h2 i hi
  rw [more_len]
  exact ⟨by omega, h4⟩
theorem wr_box {h : Heap} {id off : Nat} {cs : List AV} {v : AV} (hh : h[id]? = some (.cells cs true)) (ho : off + 1 ≤ cs.length) : wr h id off [v] = some (h.set id (.cells (splice cs off [v]) true)) := by
  unfold wr
  simp only [hh, List.length_cons, List.length_nil]
  rw [if_pos (by omega)]
theorem rd_box {h : Heap} {id off n : Nat} {cs : List AV} {b : Bool} (hh : h[id]? = some (.cells cs b)) (ho : off + n ≤ cs.length) : rd h id off n = some ((cs.drop off).take n) := by
  unfold rd
  simp only [hh]
  rw [if_pos ho]
theorem flat_lenK {α : Type} {f : α → List AV} {m : Nat} (hf : ∀ a, (f a).length = m) (l : List α) : (l.flatMap f).length = l.length * m := by
  induction l with
  | nil => simp
  | cons a l ih => rw [List.flatMap_cons, List.length_append, ih, hf, List.length_cons, Nat.add_mul]; omega
theorem c_r2SameInts (H : Heap) (a b : AV) (l : List Int) (ha : IAt H a l) (hb : IAt H b l) (hn : (l.length : Int) < 1000000) : ACalls Try.prog F.ref02_SameInts [a, b] H (fun v h' => v = .bool true ∧ h' = H) := by
  have hsa : ∀ k, a.sc (H.length + k) = true := fun k => RAt.sc ha (by omega)
  have hsb : ∀ k, b.sc (H.length + k) = true := fun k => RAt.sc hb (by omega)
  refine acalls_of ok_ref02_SameInts rfl fun hcl => ?_
  unfold ac_ref02_SameInts
  simp only [argsT, Nat.zero_add, Nat.reduceAdd]
  repeat (first|(with_reducible first|apply X1|apply X2|apply X8)|((with_reducible apply e_end);(simp;exact Red.rfl))|((with_reducible apply O1);rfl;(simp (disch:=omega);exact Red.rfl);exact Red.rfl;(focus (first|(simp;done)|omega|(simp;omega)))))
  (with_reducible apply e_call); (simp; exact Red.rfl); exact c_r1SameInts _ a b l ha hb hn
  rintro _ _ ⟨rfl, rfl⟩
  repeat (first|(with_reducible first|apply X3|apply X8)|((with_reducible apply e_end);(simp;exact Red.rfl))|((with_reducible apply O1);rfl;(simp (disch:=omega);exact Red.rfl);exact Red.rfl;(focus (first|(simp;done)|omega|(simp;omega)))))
  refine q_stay (.inr rfl) (by simp; exact Red.rfl) ⟨rfl, rfl⟩
def dC (H : Heap) (n : Nat) (c : Cv) (bv : AV) : List AV := [.slice (H.length + 3) 0 n 9 false, bv, .slice (H.length + 7) 0 c.hs.length 5 false, .int .i64 c.w1, .int .i64 c.w2, .int .i64 c.y1, .int .i64 c.y2, .int .i64 c.rate, .int .i64 c.lim, .int .i64 c.base]
structure BF (H : Heap) (c : Cv) (bx FT : List AV) (n : Nat) (bd : Bd) (bv : AV) (m : Nat) (X : Heap) : Prop where
  old : ∀ i, i < H.length → X[i]? = H[i]?
  len : H.length + 9 ≤ X.length
  b0 : X[H.length]? = some (.cells bx true)
  b2 : X[H.length + 2]? = some (.cells bd.av true)
  tr : X[H.length + 3]? = some (.cells FT true)
  hs : X[H.length + 7]? = some (.cells (c.hs.flatMap Hr.av) true)
  bo : X[H.length + 8]? = some (.cells (dC H n c bv) true)
  bl : AAt X 3 bv ((c.bs ++ List.replicate m bd).flatMap Bd.av) (c.bs.length + m)
  bi : ∀ i, isId bv i → i = H.length + 6 ∨ H.length + 8 < i
theorem BF.step {H : Heap} {c : Cv} {bx FT : List AV} {n : Nat} {bd : Bd} {bv : AV} {m : Nat} {X : Heap} (h : BF H c bx FT n bd bv m X) {h' : Heap} (e1 : h'.length = X.length + 2)
    (e2 : ∀ i, i < X.length → ¬ isId bv i → h'[i]? = X[i]?) (e3 : LAt h' 3 (.slice (X.length + 1) 0 (c.bs.length + m + 1) 3 false) ((c.bs ++ List.replicate m bd).flatMap Bd.av ++ bd.av) (c.bs.length + m + 1)) :
    h'[H.length + 8]? = some (.cells (dC H n c bv) true) ∧ BF H c bx FT n bd (.slice (X.length + 1) 0 (c.bs.length + m + 1) 3 false) (m + 1) (h'.set (H.length + 8) (.cells (dC H n c (.slice (X.length + 1) 0 (c.bs.length + m + 1) 3 false)) true)) := by
  have hl := h.len
  have ni : ∀ i, i ≠ H.length + 6 → i ≤ H.length + 8 → ¬ isId bv i := fun i h1 h2 hh => by have := h.bi i hh; omega
  have g : ∀ i, i ≠ H.length + 6 → i < H.length + 8 → (h'.set (H.length + 8) (.cells (dC H n c (.slice (X.length + 1) 0 (c.bs.length + m + 1) 3 false)) true))[i]? = X[i]? := fun i h1 h2 => by
    rw [List.getElem?_set, if_neg (by omega)]; exact e2 i (by omega) (ni i h1 (by omega))
  have k : h'[H.length + 8]? = some (.cells (dC H n c bv) true) := by rw [e2 _ (by omega) (ni _ (by omega) (by omega))]; exact h.bo
  refine ⟨k, fun i hi => by rw [g i (by omega) (by omega)]; exact h.old i hi, by simp; omega, by rw [g _ (by omega) (by omega)]; exact h.b0, by rw [g _ (by omega) (by omega)]; exact h.b2, by rw [g _ (by omega) (by omega)]; exact h.tr, by rw [g _ (by omega) (by omega)]; exact h.hs, ?_, ?_, fun i hi => ?_⟩
  · rw [List.getElem?_set, if_pos rfl, if_pos (by omega)]
  · have e4 : (c.bs ++ List.replicate (m + 1) bd).flatMap Bd.av = (c.bs ++ List.replicate m bd).flatMap Bd.av ++ bd.av := by
      rw [List.replicate_succ', ← List.append_assoc, List.flatMap_append]; simp
    rw [e4]
    obtain ⟨hc, ⟨e, _⟩ | ⟨id, ex, e, hh⟩⟩ := e3
    · cases e
    · cases e
      exact ⟨hc, .inr ⟨_, by omega, rfl, by rw [List.getElem?_set, if_neg (by omega)]; exact hh⟩⟩
  · have : X.length + 1 = i := hi
    omega
end Go.Proofs
/- The law IceBeside: its contract, whole. -/
namespace Go.Proofs
open Go.Abs
attribute [local simp] AOp.den AOpd.ev lk cellsOf rd_new rd_new0 rd_zero rd_succ wr_new wr_new0 wr_zero wr_succ splice fillA binA scal sliceCells List.length_append argsT AV.sc scL AObj.sc resV getAll AR.get AOp.slots opdSlots opdsSlots partSlots eqAt at_new0 at_new set_new0 set_new wrap64
set_option linter.unusedSimpArgs false
set_option linter.unusedVariables false
set_option maxHeartbeats 4000000 in
theorem c_lawIB (H : Heap) (l : List Str) (c : Cv) (p : Plc) (l2 : List Str) (bd : Bd) (us : List Int) (tid toff uid uoff : Nat) (tex uex : Bool) (hp : CvAt H c p) (ht : TrAt H l p) (hn : (l.length : Int) ≤ 9223372036854775807) (hn1 : (c.bs.length : Int) ≤ 9223372036854775807) (hn2 : (c.hs.length : Int) ≤ 9223372036854775807)
    (h2 : rd H tid toff (l2.length * 9) = some (l2.flatMap Str.av)) (hb : rd H uid uoff us.length = some (us.map (.int .u32))) (hu : ∀ u ∈ us, 0 ≤ u ∧ u ≤ 4294967295) (hun : (us.length : Int) ≤ 9223372036854775807) :
    ACalls Try.prog F.law02_IceBeside [.agg (c.av p), .agg [.slice tid toff l2.length 9 tex], .agg bd.av, .slice uid uoff us.length 1 uex] H (fun v _ => v = .bool true) := by
  have hp1 := hp.t
  have hp2 := rd_lt hp.b
  have hp3 := rd_lt hp.h
  have huid := rd_lt hb
  have htid := rd_lt h2
  have kr := fun G => c_ready2 (H ++ G) l c p (hp.app G) (ht.app G) hn hn1 hn2
  have hcv := hp
  have htn := ht.n
  simp only [Cv.av, htn] at kr
  simp only [Cv.av, Bd.av, htn]
  refine acalls_of ok_law02_IceBeside rfl fun hcl => ?_
  unfold ac_law02_IceBeside
  simp only [argsT, Nat.zero_add, Nat.reduceAdd]
  repeat (first|(with_reducible first|apply X1|apply X2|apply X8)|((with_reducible apply e_end);(simp;exact Red.rfl))|((with_reducible apply O1);rfl;(simp (disch:=omega);exact Red.rfl);exact Red.rfl;(focus (first|(simp;done)|omega|(simp;omega)))))
  (with_reducible apply e_call); (simp; exact Red.rfl); exact c_aliveI _
  rintro _ _ ⟨rfl, rfl⟩
  repeat (first|(with_reducible first|apply X1|apply X2|apply X5|apply X8)|((with_reducible apply e_end);(simp;exact Red.rfl))|((with_reducible apply O1);rfl;(simp (disch:=omega);exact Red.rfl);exact Red.rfl;(focus (first|(simp;done)|omega|(simp;omega))))|((with_reducible apply W3);(simp (disch:=omega);exact Red.rfl)))
  (with_reducible apply e_call); (simp; exact Red.rfl); exact kr _
  rintro _ _ ⟨rfl, b, rfl, hrd⟩
  cases b with
  | false =>
    repeat (first|(with_reducible first|apply X1|apply X2|apply X3|apply X8|apply X9)|((with_reducible apply e_end);(simp;exact Red.rfl))|((with_reducible apply O1);rfl;(simp (disch:=omega);exact Red.rfl);exact Red.rfl;(focus (first|(simp;done)|omega|(simp;omega))))|((with_reducible apply Z9);(simp (disch:=omega);exact Red.rfl))|((with_reducible apply Z2);(simp (disch:=omega);exact Red.rfl)))
    exact q_stay (.inr rfl) (by simp; exact Red.rfl) rfl
  | true =>
  obtain ⟨hv, hc⟩ := hrd.1 rfl
  have h12 := hv.1
  have hlen := hc.len
  have h8 := hc.hours
  repeat (first|((with_reducible apply O1);rfl;(simp (disch:=omega);exact Red.rfl);exact Red.rfl;(focus (first|(simp;done)|omega|(simp;omega))))|((with_reducible apply Z7);(simp (disch:=omega);exact Red.rfl)))
  (with_reducible apply e_call); (simp; exact Red.rfl); exact c_great _ _ _ _ _ (by simp; omega)
  rintro _ _ ⟨rfl, rfl⟩
  by_cases h20 : 20 < l2.length
  · repeat (first|(with_reducible first|apply X1|apply X2|apply X3|apply X8|apply X9)|((with_reducible apply e_end);(simp;exact Red.rfl))|((with_reducible apply O1);rfl;(simp (disch:=omega) [h20];exact Red.rfl);exact Red.rfl;(focus (first|(simp;done)|omega|(simp;omega))))|((with_reducible apply Z9);(simp (disch:=omega) [h20];exact Red.rfl))|((with_reducible apply Z2);(simp (disch:=omega) [h20];exact Red.rfl)))
    exact q_stay (.inr rfl) (by simp; exact Red.rfl) rfl
  repeat (first|((with_reducible apply O1);rfl;(simp (disch:=omega) [h20];exact Red.rfl);exact Red.rfl;(focus (first|(simp;done)|omega|(simp;omega))))|((with_reducible apply Z7);(simp (disch:=omega) [h20];exact Red.rfl)))
  (with_reducible apply e_call); (simp; exact Red.rfl); exact c_r1Check _ l2 tid toff tex (by rw [rd_old _ htid]; exact h2) (by omega)
  rintro _ _ ⟨rfl, e, rfl, ⟨hv2, rfl⟩ | ⟨hv2, rfl⟩⟩
  rotate_left
  · repeat (first|(with_reducible first|apply X1|apply X2|apply X3|apply X8|apply X9)|((with_reducible apply e_end);(simp;exact Red.rfl))|((with_reducible apply O1);rfl;(simp (disch:=omega);exact Red.rfl);exact Red.rfl;(focus (first|(simp;done)|omega|(simp;omega))))|((with_reducible first|apply Z7|apply Z9);(simp (disch:=omega);exact Red.rfl)))
    exact q_stay (.inr rfl) (by simp; exact Red.rfl) rfl
  have h122 := hv2.1
  repeat (first|(with_reducible first|apply X1|apply X2|apply X5|apply X8)|((with_reducible apply e_end);(simp;exact Red.rfl))|((with_reducible apply O1);rfl;(simp (disch:=omega);exact Red.rfl);exact Red.rfl;(focus (first|(simp;done)|omega|(simp;omega))))|((with_reducible apply Z7);(simp (disch:=omega);exact Red.rfl))|((with_reducible apply W3);(simp (disch:=omega);exact Red.rfl)))
  (with_reducible apply e_call); (simp; exact Red.rfl); exact c_Join _ l l2 p.tid p.toff tid toff p.tex tex (by rw [rd_old _ hp1]; exact ht.t) (by rw [rd_old _ htid]; exact h2) (by omega) (by omega)
  rintro _ _ ⟨rfl, rfl⟩
  by_cases hj : joinE l l2 = 0
  rotate_left
  · have hjl : joinL l l2 = [] := by rw [joinL, if_neg hj]
    have hj2 : joinE l l2 = 9 ∨ joinE l l2 = 8 := by
      simp only [joinE] at hj ⊢
      split
      · rename_i h; rcases h with h | h
        · exact absurd hv h
        · exact absurd hv2 h
      · split
        · exact .inl rfl
        · split
          · exact .inr rfl
          · rename_i h1 h2 h3; simp [h1, h2, h3] at hj
    simp only [hjl, List.length_nil, lsV, lsO, if_true]
    generalize joinE l l2 = e at *
    rcases hj2 with rfl | rfl
    · repeat (first|(with_reducible first|apply X1|apply X2|apply X3|apply X8|apply X9)|((with_reducible apply e_end);(simp;exact Red.rfl))|((first|((with_reducible apply O1);rfl)|((with_reducible apply O2);rfl));(simp (disch:=omega);exact Red.rfl);exact Red.rfl;(focus (first|(simp;done)|omega|(simp;omega))))|((with_reducible first|apply Z7|apply Z9);(simp (disch:=omega);exact Red.rfl))|((with_reducible apply Z2);(simp (disch:=omega);exact Red.rfl)))
      exact q_stay (.inr rfl) (by simp; exact Red.rfl) rfl
    · repeat (first|(with_reducible first|apply X1|apply X2|apply X3|apply X8|apply X9)|((with_reducible apply e_end);(simp;exact Red.rfl))|((first|((with_reducible apply O1);rfl)|((with_reducible apply O2);rfl));(simp (disch:=omega);exact Red.rfl);exact Red.rfl;(focus (first|(simp;done)|omega|(simp;omega))))|((with_reducible first|apply Z7|apply Z9);(simp (disch:=omega);exact Red.rfl)))
      exact q_stay (.inr rfl) (by simp; exact Red.rfl) rfl
  have hjl : joinL l l2 = l ++ l2 := by rw [joinL, if_pos hj]
  have h0 : ¬ l.length + l2.length = 0 := by omega
  have kt := fun G => c_r2Twin (H ++ G) l c p (hp.app G) (ht.app G) (by omega) (by omega) (by omega)
  simp only [Cv.av, twP, htn] at kt
  simp only [hjl, hj, List.length_append, lsV, lsO, if_neg h0]
  repeat (first|(with_reducible first|apply X1|apply X2|apply X5|apply X8)|((with_reducible apply e_end);(simp;exact Red.rfl))|((first|((with_reducible apply O1);rfl)|((with_reducible apply O2);rfl));(simp (disch:=omega);exact Red.rfl);exact Red.rfl;(focus (first|(simp;done)|omega|(simp;omega))))|((with_reducible apply W3);(simp (disch:=omega);exact Red.rfl)))
  (with_reducible apply e_call); (simp; exact Red.rfl); exact kt _
  rintro _ _ ⟨rfl, rfl⟩
  repeat (first|(with_reducible first|apply X1|apply X2|apply X6|apply X8)|((with_reducible apply e_end);(simp;exact Red.rfl))|((first|((with_reducible apply O1);rfl)|((with_reducible apply O2);rfl));(simp (disch:=omega);exact Red.rfl);exact Red.rfl;(focus (first|(simp;done)|omega|(simp;omega)))))
  have hbl1 : c.bs.length * 3 = (c.bs.flatMap Bd.av).length := (flat_lenK Bd.av_length c.bs).symm
  refine e_loop (ι := { x : Nat × Heap × AV // x.1 ≤ l2.length ∧ BF H c (c.av p) ((l ++ l2).flatMap Str.av) (l.length + l2.length) bd x.2.2 x.1 x.2.1 })
    (fun x => [(3, .slice uid uoff us.length 1 uex), (4, .ptr H.length 0), (6, .ptr (H.length + 2) 0), (9, .bool true), (12, .ptr (H.length + 8) 0), (64, .int .i64 l2.length), (65, .int .i64 x.1.1)])
    (fun x => x.1.2.1) (fun x => l2.length - x.1.1) ⟨(0, H ++ [.cells (c.av p) true, .cells [.slice tid toff l2.length 9 tex] true, .cells bd.av true, .cells ((l ++ l2).flatMap Str.av) true, .cells [.slice (H.length + 3) 0 (l.length + l2.length) 9 false] true, .cells (l.flatMap Str.av) true, .cells (c.bs.flatMap Bd.av) true, .cells (c.hs.flatMap Hr.av) true, .cells (dC H (l.length + l2.length) c (.slice (H.length + 6) 0 c.bs.length 3 false)) true], .slice (H.length + 6) 0 c.bs.length 3 false), by simp, ?_⟩ ?_ ?_
  · exact ⟨fun i hi => List.getElem?_append_left hi, by simp, by simp, by simp, by simp, by simp, by simp, ⟨by rw [List.replicate_zero, List.append_nil, flat_lenK Bd.av_length]; omega, .inr ⟨_, by omega, rfl, by simp⟩⟩, fun i hi => .inl (by have : H.length + 6 = i := hi; omega)⟩
  · refine .inl ?_
    simp [Cv.av, Bd.av, dC, ht.n]
  · rintro ⟨⟨m, X, bv⟩, hm, hB⟩
    dsimp only at hm hB ⊢
    have hXl := hB.len
    have r12 := fun off n (ho : off + n ≤ (dC H (l.length + l2.length) c bv).length) => rd_box hB.bo ho
    have r12a := r12 1 1 (by simp [dC])
    have r6 := rd_box (off := 0) (n := 3) hB.b2 (by simp [Bd.av])
    have hbv := hB.bl.l.sc (Nat.le_refl _)
    simp only [dC, Bd.av, List.drop_succ_cons, List.drop_zero, List.take_succ_cons, List.take_zero] at r12a r6
    by_cases hlt : m < l2.length
    · have hlt2 : (m : Int) < l2.length := by omega
      repeat (first|(with_reducible first|apply X1|apply X2|apply X5|apply X6|apply X8)|((with_reducible apply e_end);(simp;exact Red.rfl))|((with_reducible apply O1);rfl;(simp (disch:=omega) [hlt, hlt2, r12a, r6];exact Red.rfl);exact Red.rfl;(focus (first|(simp;done)|omega|(simp;omega))))|((with_reducible apply Z9);(simp (disch:=omega) [hlt, hlt2, r12a, r6];exact Red.rfl)))
      refine e_app (v := bv) (w := .slice X.length 0 1 3 true) (cs := (c.bs ++ List.replicate m bd).flatMap Bd.av) (new := bd.av) (n := c.bs.length + m) (m := 1) (by simp; exact Red.rfl) (by simp; exact Red.rfl) (hB.bl.app _).l (by simp [Bd.av]) (by simp [Bd.av]) (by omega) ?_
      intro h' e1 e2 e3
      rw [List.length_append, List.length_cons, List.length_nil, Nat.zero_add] at e1 e2 e3 ⊢
      obtain ⟨hbo, hB2⟩ := hB.step e1 (fun i hi hv => by rw [e2 i (by omega) hv, List.getElem?_append_left hi]) e3
      have hw := wr_box (off := 1) (v := .slice (X.length + 1) 0 (c.bs.length + m + 1) 3 false) hbo (by simp [dC])
      repeat (first|(with_reducible first|apply X2|apply X8|apply Y2)|((with_reducible apply e_end);(simp;exact Red.rfl))|((first|((with_reducible apply O1);rfl)|((with_reducible apply O2);rfl));(simp (disch:=omega) [hw];exact Red.rfl);exact Red.rfl;(focus (first|(simp;done)|omega|(simp;omega)))))
      refine q_again ⟨(m + 1, _, _), by dsimp only; omega, hB2⟩ (by dsimp only; omega) (.inl ?_)
      simp [dC]
    · have hlt2 : ¬ (m : Int) < l2.length := by omega
      obtain rfl : m = l2.length := by omega
      repeat (first|(with_reducible first|apply X1|apply X2|apply X4|apply X8|apply Y1|apply Y4|apply Y6)|((with_reducible apply e_end);(simp;exact Red.rfl))|((with_reducible apply O1);rfl;(simp (disch:=omega) [hlt2];exact Red.rfl);exact Red.rfl;(focus (first|(simp;done)|omega|(simp;omega))))|((with_reducible apply W3);(simp (disch:=omega) [hlt2];exact Red.rfl)))
      obtain ⟨_, ⟨_, hbad⟩ | ⟨bi, _, rfl, hbb⟩⟩ := hB.bl
      · omega
      refine gen_ops (fun t' Y => t' = [(3, .slice uid uoff us.length 1 uex), (4, .ptr H.length 0), (6, .ptr (H.length + 2) 0), (9, .bool true), (12, .ptr (H.length + 8) 0), (64, .int .i64 l2.length), (65, .int .i64 l2.length), (66, .bool false)] ∧ H.length + 8 < Y.length ∧
        CvAt Y c p ∧ TrAt Y l p ∧ rd Y H.length 0 10 = some (c.av p) ∧ CvAt Y (c.more l2.length bd) ⟨H.length + 3, 0, false, (l ++ l2).length, bi, 0, false, H.length + 7, 0, false⟩ ∧ TrAt Y (l ++ l2) ⟨H.length + 3, 0, false, (l ++ l2).length, bi, 0, false, H.length + 7, 0, false⟩ ∧
        rd Y (H.length + 8) 0 10 = some ((c.more l2.length bd).av ⟨H.length + 3, 0, false, (l ++ l2).length, bi, 0, false, H.length + 7, 0, false⟩) ∧ rd Y uid uoff us.length = some (us.map (.int .u32))) ?_ ?_
      · obtain ⟨G, hXG⟩ := ext_of (A := H) (h' := X) (by omega) hB.old
        have e1 : (c.more l2.length bd).bs = c.bs ++ List.replicate l2.length bd := rfl
        refine ⟨rfl, by omega, hXG ▸ hcv.app G, hXG ▸ ht.app G, ?_, ⟨by dsimp only; omega, ?_, ?_⟩, ⟨rfl, ?_⟩, ?_, ?_⟩
        · have := rd_box (off := 0) (n := 10) hB.b0 (by simp [Cv.av]); simpa [Cv.av] using this
        · rw [e1]
          have := rd_box (off := 0) (n := (c.bs ++ List.replicate l2.length bd).length * 3) hbb (by rw [flat_lenK Bd.av_length]; omega)
          rw [this, List.drop_zero, List.take_of_length_le (by rw [flat_lenK Bd.av_length]; omega)]
        · have := rd_box (off := 0) (n := c.hs.length * 5) hB.hs (by rw [flat_lenK Hr.av_length]; omega)
          rw [List.drop_zero, List.take_of_length_le (by rw [flat_lenK Hr.av_length]; omega)] at this
          exact this
        · have := rd_box (off := 0) (n := (l ++ l2).length * 9) hB.tr (by rw [flat_lenK Str.av_length]; omega)
          rw [List.drop_zero, List.take_of_length_le (by rw [flat_lenK Str.av_length]; omega)] at this
          exact this
        · have := rd_box (off := 0) (n := 10) hB.bo (by simp [dC])
          rw [this]; simp [dC, Cv.av, more_len]; exact ⟨rfl, rfl, rfl, rfl, rfl, rfl, rfl, rfl⟩
        · rw [hXG, rd_old _ huid]; exact hb
      clear hB hbb hXl r12 r12a r6 hbv kr kt hcv hp ht hb hp1 hp2 hp3 huid htid h2
      clear X
      rintro _ Y ⟨rfl, hY, hp, ht, hbX, hpd, htd, hbD, hb⟩
      have huid := rd_lt hb
      have hp1 := hp.t
      have hp2 := rd_lt hp.b
      have hp3 := rd_lt hp.h
      have hd1 := hpd.t
      have hd2 := rd_lt hpd.b
      have hd3 := rd_lt hpd.h
      have hll : (l ++ l2).length = l.length + l2.length := by simp
      have hml := more_len c l2.length bd
      have hmh : (c.more l2.length bd).hs.length = c.hs.length := rfl
      have hbl1 : rd Y (H.length + 8) 1 1 = some [.slice bi 0 (c.bs.length + l2.length) 3 false] := by
        have := rd_sub' hbD 1 1 (by omega); simpa [Cv.av, hml] using this
      have kr2 := c_ready2 Y (l ++ l2) (c.more l2.length bd) _ hpd htd (by rw [hll]; omega) (by rw [hml]; omega) (by rw [hmh]; omega)
      dsimp only at hd1 hd2 hd3
      simp only [Cv.av, hll, hml, hmh] at kr2 hbD
      repeat ((with_reducible apply O1);rfl;(simp (disch:=omega) [hbD];exact Red.rfl);exact Red.rfl;(focus (first|(simp;done)|omega|(simp;omega))))
      (with_reducible apply e_call); (simp; exact Red.rfl); exact kr2
      rintro _ hqh ⟨hqe, b, rfl, hrd2⟩
      rw [hqe]; clear hqe hqh
      cases b with
      | false =>
        repeat (first|(with_reducible first|apply X1|apply X2|apply X3|apply X8|apply X9)|((with_reducible apply e_end);(simp;exact Red.rfl))|((with_reducible apply O1);rfl;(simp (disch:=omega);exact Red.rfl);exact Red.rfl;(focus (first|(simp;done)|omega|(simp;omega))))|((with_reducible apply Z9);(simp (disch:=omega);exact Red.rfl)))
        exact q_stay (.inr rfl) (by simp; exact Red.rfl) rfl
      | true =>
      obtain ⟨hvd, hcd⟩ := hrd2.1 rfl
      have kd := c_drawn2 Y l c p hp hc hv us 0 uid uoff uex hb hu hun (by omega)
      have hokp := plnL_okPl hc us 0
      simp only [Cv.av, htn] at kd hbX
      repeat (first|(with_reducible first|apply X1|apply X2|apply X5|apply X8)|((with_reducible apply e_end);(simp;exact Red.rfl))|((with_reducible apply O1);rfl;(simp (disch:=omega) [hbX];exact Red.rfl);exact Red.rfl;(focus (first|(simp;done)|omega|(simp;omega))))|((with_reducible apply W3);(simp (disch:=omega) [hbX];exact Red.rfl)))
      (with_reducible apply e_call); (simp; exact Red.rfl); exact kd
      rintro pl _ ⟨G, rfl, hpl⟩
      have kn := fun X => c_iNeedV (Y ++ X) l c p (hp.app X) (ht.app X) hc hv
      have knd := fun X => c_iNeedV (Y ++ X) (l ++ l2) (c.more l2.length bd) _ (hpd.app X) (htd.app X) (by rw [hll]; exact hcd) hvd
      simp only [Cv.av, htn, hll, hml, hmh] at kn knd
      have hpls := hpl.get
      obtain ⟨pid, poff, pex, rfl, hpid, _⟩ := hpls
      have hY0 : H.length < Y.length := by omega
      generalize hnc : tnL (fun s => ndF c s c.hs.length) c.bs.length = nc at *
      generalize hnd : tnL (fun s => ndF (c.more l2.length bd) s c.hs.length) (c.bs.length + l2.length) = nd at *
      have hnl : nd.take c.bs.length = nc := by
        rw [← hnc, ← hnd]
        apply List.ext_getElem
        · simp [tnL]
        · intro k h1 h3
          simp only [tnL, List.length_map, List.length_range] at h3
          simp [tnL, more_nd h3]
      have hncl : nc.length = c.bs.length := by rw [← hnc, tnL_len]
      have hndl : nd.length = c.bs.length + l2.length := by rw [← hnd, tnL_len]
      have z1 : ¬ c.bs.length = 0 := by omega
      have z2 : ¬ c.bs.length + l2.length = 0 := by omega
      simp only [lsV, lsO, if_neg z1, if_neg z2] at kn knd
      repeat (first|(with_reducible first|apply X1|apply X2|apply X8)|((with_reducible apply e_end);(simp;exact Red.rfl))|((with_reducible apply O1);rfl;(simp (disch:=omega) [rd_old _ hY0, hbX];exact Red.rfl);exact Red.rfl;(focus (first|(simp;done)|omega|(simp;omega)))))
      (with_reducible apply e_call); (simp; exact Red.rfl); exact kn _
      rintro _ _ ⟨rfl, rfl⟩
      repeat (first|(with_reducible first|apply X1|apply X2|apply X8)|((with_reducible apply e_end);(simp;exact Red.rfl))|((with_reducible apply O1);rfl;(simp (disch:=omega) [rd_old _ hY, hbD];exact Red.rfl);exact Red.rfl;(focus (first|(simp;done)|omega|(simp;omega)))))
      (with_reducible apply e_call); (simp; exact Red.rfl); exact knd _
      rintro _ _ ⟨rfl, rfl⟩
      have hz1 : c.bs.length ≤ c.bs.length + l2.length := by omega
      have ka := c_r2SameInts (Y ++ (G ++ [AObj.cells (iv nc) true, .cells (iv nd) true])) (.slice (Y.length + (G.length + 1)) 0 c.bs.length 1 false) (.slice (Y.length + G.length) 0 c.bs.length 1 false) nc ?_ ?_ (by omega)
      rotate_left
      · rw [show c.bs.length = nc.length by omega]
        refine ⟨by rw [iv_length]; omega, .inr ⟨_, _, _, rfl, ?_⟩⟩
        simp only [rd_new]
        rw [rd_box (cs := iv nd) (b := true) rfl (by rw [iv_length]; omega), List.drop_zero, ← hnl]
        simp only [iv, List.map_take]
        congr 1
        rw [List.length_take]; congr 1; omega
      · rw [show c.bs.length = nc.length by omega]
        refine ⟨by rw [iv_length]; omega, .inr ⟨_, _, _, rfl, ?_⟩⟩
        simp only [rd_new, rd_new0]
        rw [rd_box (cs := iv nc) (b := true) rfl (by rw [iv_length]; omega), List.drop_zero, List.take_of_length_le (by rw [iv_length]; omega)]
      have bb1 : rd Y H.length 1 1 = some [.slice p.bid p.boff c.bs.length 3 p.bex] := by have := rd_sub' hbX 1 1 (by omega); simpa using this
      have bb2 : rd Y H.length 2 1 = some [.slice p.hid p.hoff c.hs.length 5 p.hex] := by have := rd_sub' hbX 2 1 (by omega); simpa using this
      have e1 : ∀ X, Y ++ (G ++ X) = (Y ++ G) ++ X := fun X => by simp
      have kt := fun X s h hs hh => c_iThickV (Y ++ (G ++ X)) l c p (hp.app _) (ht.app _) hv hc _ _ (by rw [e1]; exact hpl.app X) hokp s h hs hh
      have ktd := fun X s h hs hh => c_iThickV (Y ++ (G ++ X)) (l ++ l2) (c.more l2.length bd) _ (hpd.app _) (htd.app _) hvd (by rw [hll]; exact hcd) (.slice pid poff c.hs.length 1 pex) _ (by rw [hmh, e1]; exact hpl.app X) (more_okPl hokp) s h hs hh
      generalize (fun h => plnL c us 0 h c.bs.length) = L at *
      simp only [Cv.av, htn, hll, hml, hmh] at kt ktd
      repeat (first|(with_reducible first|apply X1|apply X2|apply X8)|((with_reducible apply e_end);(simp;exact Red.rfl))|((with_reducible apply O1);rfl;(simp (disch:=omega) [hz1, rd_old _ hY, hbl1];exact Red.rfl);exact Red.rfl;(focus (first|(simp;done)|omega|(simp;omega))))|((with_reducible apply Z7);(simp (disch:=omega) [hz1, rd_old _ hY, hbl1];exact Red.rfl)))
      (with_reducible apply e_call); (simp; exact Red.rfl); exact ka
      rintro _ _ ⟨rfl, rfl⟩
      repeat (first|(with_reducible first|apply X1|apply X2|apply X5|apply X6|apply X8)|((with_reducible apply e_end);(simp;exact Red.rfl))|((with_reducible apply O1);rfl;(simp (disch:=omega) [rd_old _ hY0, bb1];exact Red.rfl);exact Red.rfl;(focus (first|(simp;done)|omega|(simp;omega))))|((with_reducible apply Z7);(simp (disch:=omega) [rd_old _ hY0, bb1];exact Red.rfl))|((with_reducible apply W3);(simp (disch:=omega) [rd_old _ hY0, bb1];exact Red.rfl)))
      have hpid2 : pid < Y.length + G.length := by simpa using hpid
      clear ka kn knd hnc hnd hnl hncl hndl kd kr2
      refine e_loop (ι := { x : Nat × Heap // x.1 ≤ c.bs.length })
        (fun x => [(4, .ptr H.length 0), (9, .bool true), (12, .ptr (H.length + 8) 0), (13, .slice pid poff c.hs.length 1 pex), (116, .int .i64 c.bs.length), (117, .int .i64 x.1.1)])
        (fun x => Y ++ (G ++ x.1.2)) (fun x => c.bs.length - x.1.1) ⟨(0, [AObj.cells (iv nc) true, .cells (iv nd) true]), by simp⟩ ?_ ?_
      · exact .inl rfl
      · rintro ⟨⟨i, K⟩, hi⟩
        dsimp only at hi ⊢
        by_cases hil : i < c.bs.length
        · have hil2 : (i : Int) < c.bs.length := by omega
          repeat (first|(with_reducible first|apply X1|apply X2|apply X5|apply X6|apply X8)|((with_reducible apply e_end);(simp;exact Red.rfl))|((with_reducible apply O1);rfl;(simp (disch:=omega) [hil2, rd_old _ hY0, bb2];exact Red.rfl);exact Red.rfl;(focus (first|(simp;done)|omega|(simp;omega))))|((with_reducible apply Z9);(simp (disch:=omega) [hil2, rd_old _ hY0, bb2];exact Red.rfl)))
          refine e_loop (ι := { x : Nat × Heap // x.1 ≤ c.hs.length + 1 })
            (fun x => [(4, .ptr H.length 0), (9, .bool true), (12, .ptr (H.length + 8) 0), (13, .slice pid poff c.hs.length 1 pex), (18, .int .i64 i), (116, .int .i64 c.bs.length), (117, .int .i64 i), (123, .int .i64 ((c.hs.length : Int) + 1)), (124, .int .i64 x.1.1)])
            (fun x => Y ++ (G ++ x.1.2)) (fun x => c.hs.length + 1 - x.1.1) ⟨(0, K), by simp⟩ ?_ ?_
          · exact .inl rfl
          · clear hi
            rintro ⟨⟨h, K⟩, hh⟩
            dsimp only at hh ⊢
            by_cases hlt : h < c.hs.length + 1
            · have hlt2 : (h : Int) < (c.hs.length : Int) + 1 := by omega
              have kt := fun X => kt X i h hil (by omega)
              have ktd := fun X => ktd X i h (by omega) (by omega)
              simp only [more_bef hil] at ktd
              generalize befF c (endT true c) (inP L) i h = x1 at *
              generalize befF c (endT false c) (inP L) i h = x2 at *
              repeat (first|(with_reducible first|apply X1|apply X2|apply X5|apply X6|apply X8)|((with_reducible apply e_end);(simp;exact Red.rfl))|((with_reducible apply O1);rfl;(simp (disch:=omega) [hlt2, rd_old _ hY0, hbX];exact Red.rfl);exact Red.rfl;(focus (first|(simp;done)|omega|(simp;omega))))|((with_reducible apply Z9);(simp (disch:=omega) [hlt2, rd_old _ hY0, hbX];exact Red.rfl)))
              (with_reducible apply e_call); (simp; exact Red.rfl); exact kt _
              rintro _ _ ⟨rfl, rfl⟩
              repeat (first|(with_reducible first|apply X1|apply X2|apply X8)|((with_reducible apply e_end);(simp;exact Red.rfl))|((first|((with_reducible apply O1);rfl)|((with_reducible apply O2);rfl));(simp (disch:=omega) [rd_old _ hY, hbD];exact Red.rfl);exact Red.rfl;(focus (first|(simp;done)|omega|(simp;omega)))))
              (with_reducible apply e_call); (simp; exact Red.rfl); exact ktd _
              rintro _ _ ⟨rfl, rfl⟩
              repeat (first|(with_reducible first|apply X1|apply X2|apply X5|apply X8|apply Y2)|((with_reducible apply e_end);(simp;exact Red.rfl))|((first|((with_reducible apply O1);rfl)|((with_reducible apply O2);rfl));(simp (disch:=omega);exact Red.rfl);exact Red.rfl;(focus (first|(simp;done)|omega|(simp;omega))))|((with_reducible apply Z7);(simp (disch:=omega);exact Red.rfl))|((with_reducible apply W3);(simp (disch:=omega);exact Red.rfl)))
              exact q_again ⟨(h + 1, K ++ [.cells [.int .i64 x1, .int .i64 x2] true, .cells [.int .i64 x1, .int .i64 x2] true]), by dsimp only; omega⟩ (by dsimp only; omega) (.inl (by simp))
            · have hlt2 : ¬ (h : Int) < (c.hs.length : Int) + 1 := by omega
              repeat (first|(with_reducible first|apply X1|apply X2|apply X4|apply X8|apply Y1|apply Y2|apply Y4|apply Y6)|((with_reducible apply e_end);(simp;exact Red.rfl))|((with_reducible apply O1);rfl;(simp (disch:=omega) [hlt2];exact Red.rfl);exact Red.rfl;(focus (first|(simp;done)|omega|(simp;omega))))|((with_reducible apply W3);(simp (disch:=omega) [hlt2];exact Red.rfl)))
              exact q_again ⟨(i + 1, K), by dsimp only; omega⟩ (by dsimp only; omega) (.inl (by simp))
        · have hil2 : ¬ (i : Int) < c.bs.length := by omega
          repeat (first|(with_reducible first|apply X1|apply X2|apply X3|apply X4|apply X8|apply Y1|apply Y4|apply Y6)|((with_reducible apply e_end);(simp;exact Red.rfl))|((with_reducible apply O1);rfl;(simp (disch:=omega) [hil2];exact Red.rfl);exact Red.rfl;(focus (first|(simp;done)|omega|(simp;omega))))|((with_reducible apply W3);(simp (disch:=omega) [hil2];exact Red.rfl)))
          exact q_stay (.inr rfl) (by simp; exact Red.rfl) rfl
end Go.Proofs
