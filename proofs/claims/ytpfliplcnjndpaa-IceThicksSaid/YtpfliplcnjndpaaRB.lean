/- Several texts as one. -/
import Derived.Test.YtpfliplcnjndpaaRA
import Derived.Test.YtpfliplcnjndpaaRunIceAlive
/- Ice: as many sleds as it bears. -/
namespace Go.Proofs
open Go.Abs
attribute [local simp] AOp.den AOpd.ev lk cellsOf rd_new rd_new0 rd_zero rd_succ wr_new wr_new0 wr_zero wr_succ splice fillA binA scal sliceCells List.length_append argsT AV.sc scL AObj.sc resV getAll AR.get AOp.slots opdSlots opdsSlots partSlots eqAt at_new0 at_new set_new0 set_new wrap64
set_option linter.unusedSimpArgs false
set_option linter.unusedVariables false
def hrSet (h : Hr) (r : Int) : Hr := ⟨h.m1, h.m2, r, h.crew, h.cold⟩
/-- A cover with another number of sleds in an hour. -/
def Cv.withR (c : Cv) (k : Nat) (r : Int) : Cv := { c with hs := (List.range c.hs.length).map fun j => if j = k then hrSet (c.h j) r else c.h j }
theorem withR_len {c : Cv} {k : Nat} {r : Int} : (c.withR k r).hs.length = c.hs.length := by simp [Cv.withR]
theorem withR_h {c : Cv} {k : Nat} {r : Int} {j : Nat} (hj : j < c.hs.length) : (c.withR k r).h j = if j = k then hrSet (c.h j) r else c.h j := by
  rw [Cv.h_eq (by rw [withR_len]; exact hj)]
  simp [Cv.withR]
theorem withR_ok {c : Cv} {n k : Nat} {r : Int} (hc : c.ok n) (h0 : 0 ≤ r) (h1 : r ≤ 60) : (c.withR k r).ok n := by
  refine ⟨hc.len, by rw [withR_len]; exact hc.hours, hc.bok, fun i hi => ?_, hc.rul⟩
  rw [withR_len] at hi
  rw [← Cv.h_eq (by rw [withR_len]; exact hi), withR_h hi]
  have := hc.hok i hi
  rw [← Cv.h_eq hi] at this
  split
  · exact ⟨this.1, ⟨h0, h1⟩, this.2.2⟩
  · exact this
theorem put_hr {c : Cv} {k : Nat} {r r' : Int} (hk : k < c.hs.length) : splice (avR (hrR (c.withR k r)) c.hs.length) (k * 5 + 2) [.int .i64 r'] = avR (hrR (c.withR k r')) c.hs.length := by
  refine (plain_hr _).put (plain_hr _) hk (by simp) ?_ (fun j hj hne => ?_)
  · simp only [hrR, withR_h hk, if_true, hrSet, Hr.av, splice]; rfl
  · simp only [hrR, withR_h hj, if_neg hne]
theorem withR_own {c : Cv} {k : Nat} (hk : k < c.hs.length) : c.withR k (c.h k).runs = c := by
  have : ((List.range c.hs.length).map fun j => if j = k then hrSet (c.h j) (c.h k).runs else c.h j) = c.hs := by
    refine map_at c.hs _ fun i hi => ?_
    by_cases e : i = k
    · subst e; rw [if_pos rfl, ← Cv.h_eq hi]; rfl
    · rw [if_neg e, Cv.h_eq hi]
  simp only [Cv.withR, this]
theorem c_CloneH (H : Heap) (c : Cv) (id off : Nat) (ex : Bool) (hs : rd H id off (c.hs.length * 5) = some (c.hs.flatMap Hr.av)) (hn : c.hs.length ≤ 1000) (h1 : 1 ≤ c.hs.length) :
    ACalls Try.prog F.slices_Clone_api_Hour_api_Hour [.slice id off c.hs.length 5 ex] H (fun v h' => v = .slice H.length 0 c.hs.length 5 false ∧ h' = H ++ [.cells (c.hs.flatMap Hr.av) true]) := by
  refine acalls_of ok_slices_Clone_api_Hour_api_Hour rfl fun hcl => ?_
  unfold ac_slices_Clone_api_Hour_api_Hour
  simp only [argsT, Nat.zero_add, Nat.reduceAdd]
  have hid := rd_lt hs
  have pl := (plain_hr c).plain c.hs.length
  rw [← flat_hr] at pl
  have hle : c.hs.length * 40 ≤ 140737488355328 := by omega
  have hne : ¬ c.hs.length = 0 := by omega
  have hne2 : ¬ c.hs = [] := by intro h; rw [h] at h1; simp at h1
  repeat (first|(with_reducible first|apply X1|apply X2|apply X3|apply X5|apply X8)|((with_reducible apply e_end);(simp;exact Red.rfl))|((with_reducible apply O1);rfl;(simp (disch:=omega) [AOp.fx, eqvA, rd_old _ hid, hs, pl.scal, hle, hne, hne2];exact Red.rfl);exact Red.rfl;(focus (first|(simp;done)|omega|(simp;omega))))|((with_reducible apply W3);(simp (disch:=omega) [AOp.fx, eqvA, rd_old _ hid, hs, pl.scal, hle, hne, hne2];exact Red.rfl)))
  exact q_post (v' := .slice H.length 0 c.hs.length 5 false) (.inr rfl) (by simp; exact Red.rfl) (le_plain [1] _ (by simp) rfl (by simp; exact pl.o _) (by simp [sh, AV.ren])) ⟨rfl, rfl⟩
/-- Whether nothing is too thin in an hour with some sleds, in the worst truth. -/
def goodR (c : Cv) (L : Nat → List Int) (k : Nat) (r : Int) : Prop := thL (c.withR k r) (endT true (c.withR k r)) (inP L) k c.bs.length = []
def mostE (c : Cv) (L : Nat → List Int) (k : Nat) (n e : Int) : Prop :=
  (e = 0 ∧ (0 ≤ n ∧ n ≤ 60) ∧ goodR c L k n ∧ ∀ r : Int, n < r → r ≤ 60 → ¬ goodR c L k r) ∨ (e = 6 ∧ n = 0 ∧ ∀ r : Int, 0 ≤ r → r ≤ 60 → ¬ goodR c L k r)
def mostG (l : List Str) (c : Cv) (n : Nat) (L : Nat → List Int) (h : Int) (m e : Int) : Prop :=
  (plE l c n L e ∧ e ≠ 0 ∧ m = 0) ∨ (validL l ∧ c.ok l.length ∧ (n = c.hs.length ∧ okPl c L) ∧ ¬ (0 ≤ h ∧ h < c.hs.length) ∧ e = 2 ∧ m = 0) ∨
  (validL l ∧ c.ok l.length ∧ (n = c.hs.length ∧ okPl c L) ∧ (0 ≤ h ∧ h < c.hs.length) ∧ mostE c L h.toNat m e)
set_option maxHeartbeats 2000000 in
theorem c_iMostG (H : Heap) (l : List Str) (c : Cv) (p : Plc) (hp : CvAt H c p) (ht : TrAt H l p) (hn : (l.length : Int) < 1000000) (hn1 : (c.bs.length : Int) < 1000000) (hn2 : (c.hs.length : Int) < 1000000)
    (pl : AV) (n : Nat) (L : Nat → List Int) (hpl : PlAt H pl n L) (hL : ∀ k, k < n → ((L k).length : Int) < 1000000) (hn3 : (n : Int) < 1000000) (h : Int) :
    ACalls Try.prog F.ice_Most [.agg (c.av p), pl, .int .i64 h] H (fun v h' => h' = H ∧ ∃ m e : Int, v = .tuple [.int .i64 m, .int .i64 e] ∧ mostG l c n L h m e) := by
  have k0 := fun G => c_checkPlan (H ++ G) l c p (hp.app G) (ht.app G) hn hn1 hn2 pl n L (hpl.app G) hL hn3
  have hp1 := hp.t
  have hp2 := rd_lt hp.b
  have hp3 := rd_lt hp.h
  have hpa := fun G => hp.app G
  have hpla := fun G => hpl.app G
  obtain ⟨pid, poff, pex, rfl, hpid, hrow⟩ := hpl.get
  simp only [Cv.av] at *
  refine acalls_of ok_ice_Most rfl fun hcl => ?_
  unfold ac_ice_Most
  simp only [argsT, Nat.zero_add, Nat.reduceAdd]
  repeat (first|(with_reducible first|apply X1|apply X2|apply X8)|((with_reducible apply e_end);(simp;exact Red.rfl))|((with_reducible apply O1);rfl;(simp (disch:=omega);exact Red.rfl);exact Red.rfl;(focus (first|(simp;done)|omega|(simp;omega)))))
  (with_reducible apply e_call); (simp; exact Red.rfl); exact k0 _
  rintro _ _ ⟨rfl, e, rfl, hv⟩
  by_cases he : e = 0
  rotate_left
  · repeat (first|(with_reducible first|apply X1|apply X2|apply X3|apply X8|apply X9)|((with_reducible apply e_end);(simp;exact Red.rfl))|((with_reducible apply O1);rfl;(simp (disch:=omega) [he];exact Red.rfl);exact Red.rfl;(focus (first|(simp;done)|omega|(simp;omega))))|((with_reducible apply Z9);(simp (disch:=omega) [he];exact Red.rfl)))
    refine q_drop (.inr rfl) (by simp; exact Red.rfl) (by simp) ⟨rfl, 0, e, rfl, .inl ⟨hv, he, rfl⟩⟩
  subst he
  obtain ⟨hv, hc, ⟨rfl, hok⟩, _⟩ | h | h := hv
  rotate_left
  · exact absurd rfl h.2.2
  · exact absurd h.2.2.2 (by decide)
  have h12 := hv.1
  have hlen := hc.len
  have h8 := hc.hours
  obtain ⟨b1, h1⟩ := bof (0 ≤ h ∧ h ≤ (c.hs.length : Int) - 1)
  repeat (first|(with_reducible first|apply X1|apply X2|apply X5|apply X8)|((with_reducible apply e_end);(simp;exact Red.rfl))|((with_reducible apply O1);rfl;(simp (disch:=omega);exact Red.rfl);exact Red.rfl;(focus (first|(simp;done)|omega|(simp;omega))))|((with_reducible apply W3);(simp (disch:=omega);exact Red.rfl)))
  (with_reducible apply e_call); (simp; exact Red.rfl); exact c_upto _ _
  rintro _ _ ⟨rfl, rfl⟩
  repeat ((with_reducible apply O1);rfl;(simp (disch:=omega);exact Red.rfl);exact Red.rfl;(focus (first|(simp;done)|omega|(simp;omega))))
  (with_reducible apply e_call); (simp; exact Red.rfl); exact c_within1 _ _ _ _ _ _ _ h1 (by simp)
  rintro _ _ ⟨rfl, rfl⟩
  cases b1 with
  | false =>
    repeat (first|(with_reducible first|apply X1|apply X2|apply X3|apply X8|apply X9)|((with_reducible apply e_end);(simp;exact Red.rfl))|((with_reducible apply O1);rfl;(simp (disch:=omega);exact Red.rfl);exact Red.rfl;(focus (first|(simp;done)|omega|(simp;omega))))|((with_reducible apply Z9);(simp (disch:=omega);exact Red.rfl)))
    refine q_drop (.inr rfl) (by simp; exact Red.rfl) (by simp) ⟨rfl, 0, 2, rfl, .inr (.inl ⟨hv, hc, ⟨rfl, hok⟩, (fun h3 => by have := h1.2 ⟨h3.1, by omega⟩; cases this), rfl, rfl⟩)⟩
  | true =>
  have h1 := h1.1 rfl
  obtain ⟨k, rfl⟩ : ∃ n : Nat, h = n := ⟨h.toNat, by omega⟩
  have hk : k < c.hs.length := by omega
  have kc := fun G => c_CloneH (H ++ G) c p.hid p.hoff p.hex (by rw [rd_old _ hp3]; exact hp.h) (by omega) (by omega)
  repeat (first|(with_reducible first|apply X1|apply X2|apply X5|apply X8)|((with_reducible apply e_end);(simp;exact Red.rfl))|((with_reducible apply O1);rfl;(simp (disch:=omega);exact Red.rfl);exact Red.rfl;(focus (first|(simp;done)|omega|(simp;omega))))|((with_reducible apply W3);(simp (disch:=omega);exact Red.rfl)))
  (with_reducible apply e_call); (simp; exact Red.rfl); exact kc _
  rintro _ _ ⟨rfl, rfl⟩
  have k1 := fun r (h0 : 0 ≤ r) (h1 : r ≤ 60) X (p2 : Plc) hX hpl => c_thin true X (c.withR k r) p2 _ hX (withR_ok hc h0 h1) (.slice pid poff c.hs.length 1 pex) L hpl (by rw [withR_len]; exact hL) k (by rw [withR_len]; exact hk) (by omega)
  have k2 := fun X r (p2 : Plc) hX => c_worst X (c.withR k r) p2 hX
  have e0 : c.hs.flatMap Hr.av = avR (hrR (c.withR k (c.h k).runs)) c.hs.length := by rw [withR_own hk, flat_hr]
  rw [e0]
  repeat (first|(with_reducible first|apply X1|apply X2|apply X6|apply X8)|((with_reducible apply e_end);(simp;exact Red.rfl))|((first|((with_reducible apply O1);rfl)|((with_reducible apply O2);rfl));(simp (disch:=omega);exact Red.rfl);exact Red.rfl;(focus (first|(simp;done)|omega|(simp;omega)))))
  refine e_loop (ι := { x : Nat × Heap // x.1 ≤ 61 ∧ ∀ r : Int, 60 - (x.1 : Int) < r → r ≤ 60 → ¬ goodR c L k r })
    (fun x => [(1, .slice pid poff c.hs.length 1 pex), (2, .int .i64 k), (3, .ptr H.length 0), (30, .int .i64 x.1.1)])
    (fun x => H ++ AObj.cells [.slice p.tid p.toff p.tn 9 p.tex, .slice p.bid p.boff c.bs.length 3 p.bex, .slice (H.length + 2) 0 c.hs.length 5 false, .int .i64 c.w1, .int .i64 c.w2, .int .i64 c.y1, .int .i64 c.y2, .int .i64 c.rate, .int .i64 c.lim, .int .i64 c.base] true :: AObj.cells [.int .i64 (k : Int)] true :: AObj.cells (avR (hrR (c.withR k (if x.1.1 = 0 then (c.h k).runs else 61 - (x.1.1 : Int)))) c.hs.length) true :: x.1.2) (fun x => 61 - x.1.1) ⟨(0, []), by simp, by simp; omega⟩ ?_ ?_
  · exact .inl rfl
  · rintro ⟨⟨i, K⟩, hi, hbad⟩
    dsimp only at hi hbad ⊢
    by_cases hlt : i < 61
    · have hlt2 : (i : Int) < 61 := by omega
      have hput := put_hr (c := c) (k := k) (r := if i = 0 then (c.h k).runs else 61 - (i : Int)) (r' := 60 - (i : Int)) hk
      have hll := (plain_hr (c.withR k (if i = 0 then (c.h k).runs else 61 - (i : Int)))).length c.hs.length
      have le1 : k * 5 + 2 + 1 ≤ c.hs.length * 5 := by omega
      generalize avR (hrR (c.withR k (if i = 0 then (c.h k).runs else 61 - (i : Int)))) c.hs.length = old at *
      repeat (first|(with_reducible first|apply X1|apply X2|apply X5|apply X6|apply X8)|((with_reducible apply e_end);(simp;exact Red.rfl))|((with_reducible apply O1);rfl;(simp (disch:=omega) [hlt2, hk];exact Red.rfl);exact Red.rfl;(focus (first|(simp;done)|omega|(simp;omega))))|((with_reducible apply Z9);(simp (disch:=omega) [hlt2, hk];exact Red.rfl)))
      repeat (first|(with_reducible first|apply X1|apply X2|apply X8)|((with_reducible apply e_end);(simp;exact Red.rfl))|((first|((with_reducible apply O1);rfl)|((with_reducible apply O2);rfl));(simp (disch:=omega) [Nat.add_assoc, hll, le1, -splice, hput];exact Red.rfl);exact Red.rfl;(focus (first|(simp;done)|omega|(simp;omega)))))
      have hX : ∀ K, CvAt (H ++ AObj.cells [.slice p.tid p.toff p.tn 9 p.tex, .slice p.bid p.boff c.bs.length 3 p.bex, .slice (H.length + 2) 0 c.hs.length 5 false, .int .i64 c.w1, .int .i64 c.w2, .int .i64 c.y1, .int .i64 c.y2, .int .i64 c.rate, .int .i64 c.lim, .int .i64 c.base] true :: AObj.cells [.int .i64 (k : Int)] true :: AObj.cells (avR (hrR (c.withR k (60 - (i : Int)))) c.hs.length) true :: K) (c.withR k (60 - (i : Int))) ⟨p.tid, p.toff, p.tex, p.tn, p.bid, p.boff, p.bex, H.length + 2, 0, false⟩ := fun K => by
        have h1 := hpa (AObj.cells [.slice p.tid p.toff p.tn 9 p.tex, .slice p.bid p.boff c.bs.length 3 p.bex, .slice (H.length + 2) 0 c.hs.length 5 false, .int .i64 c.w1, .int .i64 c.w2, .int .i64 c.y1, .int .i64 c.y2, .int .i64 c.rate, .int .i64 c.lim, .int .i64 c.base] true :: AObj.cells [.int .i64 (k : Int)] true :: AObj.cells (avR (hrR (c.withR k (60 - (i : Int)))) c.hs.length) true :: K)
        refine ⟨h1.t, h1.b, ?_⟩
        rw [flat_hr, withR_len]
        exact rd_full (b := true) (by simp [at_new]) ((plain_hr _).length _)
      have hpX := fun K => hpla (AObj.cells [.slice p.tid p.toff p.tn 9 p.tex, .slice p.bid p.boff c.bs.length 3 p.bex, .slice (H.length + 2) 0 c.hs.length 5 false, .int .i64 c.w1, .int .i64 c.w2, .int .i64 c.y1, .int .i64 c.y2, .int .i64 c.rate, .int .i64 c.lim, .int .i64 c.base] true :: AObj.cells [.int .i64 (k : Int)] true :: AObj.cells (avR (hrR (c.withR k (60 - (i : Int)))) c.hs.length) true :: K)
      have k1 := k1 (60 - (i : Int)) (by omega) (by omega) _ _ (hX K) (by rw [withR_len]; exact hpX K)
      have k2 := k2 _ _ _ (hX K)
      simp only [Cv.av, Cv.tv, withR_len] at k1 k2
      (with_reducible apply e_call); (simp; exact Red.rfl); exact k2
      rintro _ _ ⟨rfl, rfl⟩
      repeat ((with_reducible apply O1);rfl;(simp (disch:=omega);exact Red.rfl);exact Red.rfl;(focus (first|(simp;done)|omega|(simp;omega))))
      (with_reducible apply e_call); (simp; exact Red.rfl); exact k1
      rintro _ _ ⟨rfl, rfl⟩
      (with_reducible apply e_op); rfl; exact ls_len (by simp; rfl) _; exact Red.rfl; trivial
      have hgd : goodR c L k (60 - (i : Int)) ↔ (thL (c.withR k (60 - (i : Int))) (endT true (c.withR k (60 - (i : Int)))) (inP L) k (c.withR k (60 - (i : Int))).bs.length).length = 0 := by
        rw [List.length_eq_zero_iff]; rfl
      generalize thL (c.withR k (60 - (i : Int))) (endT true (c.withR k (60 - (i : Int)))) (inP L) k (c.withR k (60 - (i : Int))).bs.length = T at *
      by_cases hT : T.length = 0
      · have hT2 : T = [] := List.length_eq_zero_iff.1 hT
        repeat (first|(with_reducible first|apply X1|apply X2|apply X3|apply X8|apply X9|apply Y3|apply Y5)|((with_reducible apply e_end);(simp;exact Red.rfl))|((with_reducible apply O1);rfl;(simp (disch:=omega) [hT, hT2];exact Red.rfl);exact Red.rfl;(focus (first|(simp;done)|omega|(simp;omega))))|((with_reducible apply Z9);(simp (disch:=omega) [hT, hT2];exact Red.rfl)))
        refine q_drop (.inr rfl) (by simp; exact Red.rfl) (by simp) ⟨rfl, 60 - (i : Int), 0, rfl, .inr (.inr ⟨hv, hc, ⟨rfl, hok⟩, ⟨by omega, by omega⟩, .inl ⟨rfl, ⟨by omega, by omega⟩, hgd.2 hT, hbad⟩⟩)⟩
      · have hT2 : ¬ T = [] := fun h => hT (List.length_eq_zero_iff.2 h)
        repeat (first|(with_reducible first|apply X2|apply X5|apply X8|apply Y2)|((with_reducible apply e_end);(simp;exact Red.rfl))|((with_reducible apply O1);rfl;(simp (disch:=omega) [hT, hT2];exact Red.rfl);exact Red.rfl;(focus (first|(simp;done)|omega|(simp;omega))))|((with_reducible apply W3);(simp (disch:=omega) [hT, hT2];exact Red.rfl)))
        refine q_again ⟨(i + 1, K ++ lsO T.length (iv T)), by dsimp only; omega, fun r h1 h2 => ?_⟩ (by dsimp only; omega) (.inl ?_)
        · by_cases e : r = 60 - (i : Int)
          · subst e; exact fun h => hT (hgd.1 h)
          · exact hbad r (by simp at h1; omega) h2
        · have e : 61 - ((i : Int) + 1) = 60 - (i : Int) := by omega
          simp [e]
    · obtain rfl : i = 61 := by omega
      repeat (first|(with_reducible first|apply X1|apply X2|apply X3|apply X4|apply X8|apply Y1|apply Y4|apply Y6)|((with_reducible apply e_end);(simp;exact Red.rfl))|((with_reducible apply O1);rfl;(simp (disch:=omega);exact Red.rfl);exact Red.rfl;(focus (first|(simp;done)|omega|(simp;omega))))|((with_reducible apply W3);(simp (disch:=omega);exact Red.rfl)))
      refine q_drop (.inr rfl) (by simp; exact Red.rfl) (by simp) ⟨rfl, 0, 6, rfl, .inr (.inr ⟨hv, hc, ⟨rfl, hok⟩, ⟨by omega, by omega⟩, .inr ⟨rfl, rfl, fun r h0 h1 => hbad r (by omega) h1⟩⟩)⟩
end Go.Proofs
/- Ice: as many sleds as an hour bears; the law's contract. -/
namespace Go.Proofs
open Go.Abs
attribute [local simp] AOp.den AOpd.ev lk cellsOf rd_new rd_new0 rd_zero rd_succ wr_new wr_new0 wr_zero wr_succ splice fillA binA scal sliceCells List.length_append argsT AV.sc scL AObj.sc resV getAll AR.get AOp.slots opdSlots opdsSlots partSlots eqAt at_new0 at_new set_new0 set_new wrap64
set_option linter.unusedSimpArgs false
set_option linter.unusedVariables false
theorem flat_len' {α : Type} {f : α → List AV} {m : Nat} (hf : ∀ a, (f a).length = m) (l : List α) : (l.flatMap f).length = l.length * m := by
  induction l with
  | nil => simp
  | cons a l ih => rw [List.flatMap_cons, List.length_append, ih, hf, List.length_cons, Nat.add_mul]; omega
end Go.Proofs
/- Ice: the reference's loss and thickness. -/
namespace Go.Proofs
open Go.Abs
attribute [local simp] AOp.den AOpd.ev lk cellsOf rd_new rd_new0 rd_zero rd_succ wr_new wr_new0 wr_zero wr_succ splice fillA binA scal sliceCells List.length_append argsT AV.sc scL AObj.sc resV getAll AR.get AOp.slots opdSlots opdsSlots partSlots eqAt at_new0 at_new set_new0 set_new wrap64
set_option linter.unusedSimpArgs false
set_option linter.unusedVariables false
theorem cv_Has (H : Heap) (v : AV) (l : List Int) (x : Int) (hl : IAt H v l) (hn : (l.length : Int) < 1000000) {b : Bool} (hb : b = true ↔ x ∈ l) :
    ACalls Try.prog F.ref02_Has [v, .int .i64 x] H (fun v h' => v = .bool b ∧ h' = H) := by
  have hsc : ∀ k, v.sc (H.length + k) = true := fun k => RAt.sc hl (by omega)
  refine acalls_of ok_ref02_Has rfl fun hcl => ?_
  unfold ac_ref02_Has
  simp only [argsT, Nat.zero_add, Nat.reduceAdd]
  repeat (first|(with_reducible first|apply X1|apply X2|apply X6|apply X8)|((with_reducible apply e_end);(simp;exact Red.rfl))|((with_reducible apply O1);rfl;(simp (disch:=omega);exact Red.rfl);exact Red.rfl;(focus (first|(simp;done)|omega|(simp;omega)))))
  refine e_loop (ι := { i : Nat // i ≤ l.length ∧ ∀ j (hj : j < l.length), j < i → l[j] ≠ x })
    (fun i => [(0, v), (1, .int .i64 x), (5, .int .i64 i.1)]) (fun _ => H) (fun i => l.length - i.1) ⟨0, by simp⟩ ?_ ?_
  · exact .inr <| le_id (by simp; exact hsc 0)
  · rintro ⟨i, hi1, hi2⟩
    dsimp only
    repeat (first|(with_reducible first|apply X1|apply X2)|((with_reducible apply O1);rfl;(simp (disch:=omega);exact Red.rfl);exact Red.rfl;(focus (first|(simp;done)|omega|(simp;omega)))))
    (with_reducible apply e_op); rfl; exact RAt.len hl _ (by simp); exact Red.rfl; trivial
    by_cases hlt : i < l.length
    · have hlt2 : (i : Int) < l.length := by omega
      obtain ⟨id, off, ex, rfl, hx, hid⟩ := IAt.get hl hlt
      by_cases he : l[i] = x
      · repeat (first|(with_reducible first|apply X1|apply X2|apply X3|apply X5|apply X6|apply X8|apply X9|apply Y3|apply Y5)|((with_reducible apply e_end);(simp;exact Red.rfl))|((with_reducible apply O1);rfl;(simp (disch:=omega) [hlt, hlt2, hx, he];exact Red.rfl);exact Red.rfl;(focus (first|(simp;done)|omega|(simp;omega))))|((with_reducible apply Z9);(simp (disch:=omega) [hlt, hlt2, hx, he];exact Red.rfl)))
        refine q_stay (.inr rfl) (by simp; exact Red.rfl) ⟨by rw [AV.bool.injEq]; exact (hb.2 (by rw [← he]; exact List.getElem_mem _)).symm, rfl⟩
      · repeat (first|(with_reducible first|apply X1|apply X2|apply X5|apply X6|apply X8|apply Y2)|((with_reducible apply e_end);(simp;exact Red.rfl))|((with_reducible apply O1);rfl;(simp (disch:=omega) [hlt, hlt2, hx, he];exact Red.rfl);exact Red.rfl;(focus (first|(simp;done)|omega|(simp;omega))))|((with_reducible apply Z9);(simp (disch:=omega) [hlt, hlt2, hx, he];exact Red.rfl))|((with_reducible apply W3);(simp (disch:=omega) [hlt, hlt2, hx, he];exact Red.rfl)))
        refine q_again ⟨i + 1, hlt, ?_⟩ (by dsimp only; omega) (.inr (le_id (by simp; exact hid)))
        intro j hj hji
        rcases Nat.lt_or_ge j i with h | h
        · exact hi2 j hj h
        · obtain rfl : j = i := by omega
          exact he
    · have hlt2 : ¬ (i : Int) < l.length := by omega
      repeat (first|(with_reducible first|apply X1|apply X2|apply X3|apply X4|apply X8|apply Y1|apply Y4|apply Y6)|((with_reducible apply e_end);(simp;exact Red.rfl))|((with_reducible apply O1);rfl;(simp (disch:=omega) [hlt2];exact Red.rfl);exact Red.rfl;(focus (first|(simp;done)|omega|(simp;omega))))|((with_reducible apply W3);(simp (disch:=omega) [hlt2];exact Red.rfl)))
      refine q_stay (.inr rfl) (by simp; exact Red.rfl) ⟨?_, rfl⟩
      rw [AV.bool.injEq]
      cases b with
      | false => rfl
      | true =>
        obtain ⟨j, hj, hjx⟩ := List.getElem_of_mem (hb.1 rfl)
        exact absurd hjx (hi2 j hj (by omega))
theorem c_r2loss (H : Heap) (c : Cv) (p : Plc) (n : Nat) (hp : CvAt H c p) (hc : c.ok n) (s h : Nat) (hs : s < c.bs.length) (hh : h < c.hs.length) :
    ACalls Try.prog F.ref02_loss [.agg (c.av p), .int .i64 s, .int .i64 h] H (fun v h' => v = .agg [.int .i64 (lossF c (endT false c) s h), .int .i64 (lossF c (endT true c) s h)] ∧ h' = H) := by
  have hp1 := hp.t
  have hp2 := rd_lt hp.b
  have hp3 := rd_lt hp.h
  have hx := hp.hour hh
  have hy := hp.bed hs
  have bd := loss_bd hc (endT_ok hc true) hs hh
  have bd2 := loss_bd hc (endT_ok hc false) hs hh
  simp only [lossF, end_melt, end_wear] at bd bd2 ⊢
  generalize c.b s = bb at *
  generalize c.h h = hr at *
  obtain ⟨x1, x2, x3⟩ := bb
  obtain ⟨z1, z2, z3, z4, z5⟩ := hr
  simp only [Bd.av, Hr.av] at hx hy
  simp only [Cv.av, tkF, if_true, Bool.false_eq_true, if_false] at bd bd2 ⊢
  refine acalls_of ok_ref02_loss rfl fun hcl => ?_
  unfold ac_ref02_loss
  simp only [argsT, Nat.zero_add, Nat.reduceAdd]
  repeat (first|(with_reducible first|apply X1|apply X2|apply X8|apply Y9)|((with_reducible apply e_end);(simp;exact Red.rfl))|((first|((with_reducible apply O1);rfl)|((with_reducible apply P1);rfl)|((with_reducible apply P2);rfl)|((with_reducible apply P3);rfl));(simp (disch:=omega) [rd_old _ hp3, rd_old _ hp2, hx, hy, hh, hs];exact Red.rfl);exact Red.rfl;(focus (first|(simp;done)|omega|(simp;omega)))))
  (with_reducible apply d_do_); rfl; rfl; (simp (disch := omega) [rd_old _ hp3, rd_old _ hp2, hx, hy, hh, hs]; exact Red.rfl); exact Red.rfl
  · (first | (simp; done) | omega | (simp; omega))
  · (first | (simp; done) | omega | (simp; omega))
  · (first | (simp; done) | omega | (simp; omega))
  · simp [recheck, pr, AOp.sem, rd_old _ hp3, rd_old _ hp2, hx, hy, hh, hs]
  simp only [St.put]
  (with_reducible apply d_do_); rfl; rfl; (simp (disch := omega) [rd_old _ hp3, rd_old _ hp2, hx, hy, hh, hs]; exact Red.rfl); exact Red.rfl
  · (first | (simp; done) | omega | (simp; omega))
  · (first | (simp; done) | omega | (simp; omega))
  · (first | (simp; done) | omega | (simp; omega))
  · simp [recheck, pr, AOp.sem, rd_old _ hp3, rd_old _ hp2, hx, hy, hh, hs]
  simp only [St.put]
  repeat (first|(with_reducible first|apply X1|apply X2|apply X3|apply X8)|((with_reducible first|apply e_end|apply d_end);(simp;exact Red.rfl))|((first|((with_reducible apply O1);rfl)|((with_reducible apply O2);rfl));(simp (disch:=omega);exact Red.rfl);exact Red.rfl;(focus (first|(simp;done)|omega|(simp;omega)))))
  refine q_drop (.inr rfl) (by simp; exact Red.rfl) (by simp) ⟨rfl, rfl⟩
theorem c_r2asks (H : Heap) (c : Cv) (p : Plc) (hp : CvAt H c p) (h : Nat) (hh : h < c.hs.length) :
    ACalls Try.prog F.ref02_asks [.agg (c.av p), .int .i64 h] H (fun v h' => v = .int .i64 (asks c h) ∧ h' = H) := by
  have hp1 := hp.t
  have hp2 := rd_lt hp.b
  have hp3 := rd_lt hp.h
  have hx := rd_sub' (hp.hour hh) 2 1 (by omega)
  simp only [asks]
  generalize c.h h = hr at *
  obtain ⟨z1, z2, z3, z4, z5⟩ := hr
  simp only [Cv.av, Hr.av, List.drop_succ_cons, List.drop_zero, List.take_succ_cons, List.take_zero] at *
  refine acalls_of ok_ref02_asks rfl fun hcl => ?_
  unfold ac_ref02_asks
  simp only [argsT, Nat.zero_add, Nat.reduceAdd]
  by_cases hz : 0 < z3
  · repeat (first|(with_reducible first|apply X1|apply X2|apply X3|apply X8|apply X9)|((with_reducible apply e_end);(simp;exact Red.rfl))|((with_reducible apply O1);rfl;(simp (disch:=omega) [rd_old _ hp3, hx, hh, hz];exact Red.rfl);exact Red.rfl;(focus (first|(simp;done)|omega|(simp;omega))))|((with_reducible apply Z9);(simp (disch:=omega) [rd_old _ hp3, hx, hh, hz];exact Red.rfl)))
    refine q_drop (.inr rfl) (by simp; exact Red.rfl) (by simp) ⟨by simp [hz], rfl⟩
  · repeat (first|(with_reducible first|apply X1|apply X2|apply X3|apply X5|apply X8)|((with_reducible apply e_end);(simp;exact Red.rfl))|((with_reducible apply O1);rfl;(simp (disch:=omega) [rd_old _ hp3, hx, hh, hz];exact Red.rfl);exact Red.rfl;(focus (first|(simp;done)|omega|(simp;omega))))|((with_reducible apply W3);(simp (disch:=omega) [rd_old _ hp3, hx, hh, hz];exact Red.rfl)))
    refine q_drop (.inr rfl) (by simp; exact Red.rfl) (by simp) ⟨by simp [hz], rfl⟩
theorem c_r2thick (H : Heap) (c : Cv) (p : Plc) (n : Nat) (hp : CvAt H c p) (hc : c.ok n) (hn : n ≤ 12) (pl : AV) (L : Nat → List Int) (hpl : PlAt H pl c.hs.length L) (hL : ∀ k, k < c.hs.length → ((L k).length : Int) < 1000000) (s h : Nat) (hs : s < c.bs.length) (hh : h ≤ c.hs.length) :
    ACalls Try.prog F.ref02_thick [.agg (c.av p), pl, .int .i64 s, .int .i64 h] H (fun v h' => v = .agg [.int .i64 (befF c (endT true c) (inP L) s h), .int .i64 (befF c (endT false c) (inP L) s h)] ∧ h' = H) := by
  have hp1 := hp.t
  have hp2 := rd_lt hp.b
  have hp3 := rd_lt hp.h
  have hy := rd_sub' (hp.bed hs) 0 2 (by omega)
  have h8 := hc.hours.2
  have cl := fun G k (hk : k < c.hs.length) => c_r2loss (H ++ G) c p n (hp.app G) hc s k hs hk
  obtain ⟨pid, poff, pex, rfl, hpid, hrow⟩ := hpl.get
  have hb0 : ∀ w, befF c (endT w c) (inP L) s 0 = mkF w (c.b s).lo (c.b s).hi := fun w => by simp only [befF, end_thick]
  have hbS : ∀ w k, befF c (endT w c) (inP L) s (k + 1) = max 0 (befF c (endT w c) (inP L) s k - lossF c (endT w c) s k) + if inP L k s then mkF w c.y1 c.y2 else 0 := fun w k => by simp only [befF, end_layer]
  have bd := fun w k hk => bef_bd hc (endT_ok hc w) (inP L) hs (h := k) hk
  have ld := fun w k hk => (loss_bd hc (endT_ok hc w) hs (h := k) hk).2.2
  have hru := hc.rul.2.1
  generalize hBt : befF c (endT true c) (inP L) s = Bt at *
  generalize hBf : befF c (endT false c) (inP L) s = Bf at *
  have b0t := hb0 true
  have b0f := hb0 false
  have bSt := hbS true
  have bSf := hbS false
  have bdt := bd true
  have bdf := bd false
  have ldt := ld true
  have ldf := ld false
  rw [hBt] at b0t bSt bdt
  rw [hBf] at b0f bSf bdf
  generalize lossF c (endT true c) s = lt at *
  generalize lossF c (endT false c) s = lf at *
  clear hb0 hbS bd ld
  generalize c.b s = bb at *
  obtain ⟨x1, x2, x3⟩ := bb
  simp only [Bd.av, List.drop_zero, List.take_succ_cons, List.take_zero, Nat.add_zero] at hy
  simp only [mkF, if_true, Bool.false_eq_true, if_false] at b0t b0f bSt bSf
  simp only [Cv.av] at *
  refine acalls_of ok_ref02_thick rfl fun hcl => ?_
  unfold ac_ref02_thick
  simp only [argsT, Nat.zero_add, Nat.reduceAdd]
  repeat (first|(with_reducible first|apply X1|apply X2|apply X6|apply X8)|((with_reducible apply e_end);(simp;exact Red.rfl))|((first|((with_reducible apply O1);rfl)|((with_reducible apply O2);rfl));(simp (disch:=omega) [rd_old _ hp2, hy, hs];exact Red.rfl);exact Red.rfl;(focus (first|(simp;done)|omega|(simp;omega)))))
  refine e_loop (ι := { i : Nat // i ≤ h })
    (fun i => [(1, .slice pid poff c.hs.length 1 pex), (2, .int .i64 s), (3, .int .i64 h), (4, .ptr H.length 0), (8, .ptr (H.length + 1) 0), (9, .ptr (H.length + 2) 0), (10, .int .i64 i.1)])
    (fun i => H ++ [.cells (c.av p) true, .cells [.int .i64 0, .int .i64 0] true, .cells [.int .i64 (Bt i.1), .int .i64 (Bf i.1)] true]) (fun i => h - i.1) ⟨0, by simp⟩ ?_ ?_
  · simp only [Cv.av, b0t, b0f]
    exact .inl rfl
  · rintro ⟨i, hi⟩
    simp only [Cv.av]
    by_cases hlt : i < h
    · have hlt2 : (i : Int) < h := by omega
      have hi9 : i < c.hs.length := by omega
      obtain ⟨x, hx, hix⟩ := hrow i hi9
      have hxs' : ∀ k, x.sc (H.length + k) = true := fun k => RAt.sc hix (by omega)
      obtain ⟨bc, hbc⟩ := bof ((s : Int) ∈ L i)
      have hpc : inP L i s = bc := by simp only [inP]; rw [Bool.eq_iff_iff, hbc]; simp
      have b1 := bdt i (by omega)
      have b2 := bdf i (by omega)
      have l1 := ldt i hi9
      have l2 := ldf i hi9
      have e1 := bSt i
      have e2 := bSf i
      rw [hpc] at e1 e2
      repeat (first|(with_reducible first|apply X1|apply X2|apply X5|apply X6|apply X8)|((with_reducible apply e_end);(simp;exact Red.rfl))|((with_reducible apply O1);rfl;(simp (disch:=omega) [hlt2];exact Red.rfl);exact Red.rfl;(focus (first|(simp;done)|omega|(simp;omega))))|((with_reducible apply Z9);(simp (disch:=omega) [hlt2];exact Red.rfl)))
      (with_reducible apply e_call); (simp; exact Red.rfl); exact cl _ i hi9
      rintro _ _ ⟨rfl, rfl⟩
      have m1 : (if lt i < Bt i then Bt i - lt i else 0) = max 0 (Bt i - lt i) := by split <;> omega
      have m2 : (if lf i < Bf i then Bf i - lf i else 0) = max 0 (Bf i - lf i) := by split <;> omega
      repeat (first|(with_reducible first|apply X1|apply X2|apply X8)|((with_reducible apply e_end);(simp;exact Red.rfl))|((first|((with_reducible apply O1);rfl)|((with_reducible apply O2);rfl));(simp (disch:=omega) [rd_old _ hpid, hx, hi9, m1, m2];exact Red.rfl);exact Red.rfl;(focus (first|(simp;done)|omega|(simp;omega)))))
      (with_reducible apply e_call); (simp; exact Red.rfl); exact cv_Has _ _ (L i) _ (RAt.app hix _) (hL i hi9) hbc
      rintro _ _ ⟨rfl, rfl⟩
      cases bc with
      | true =>
        simp only [if_true] at e1 e2
        repeat (first|(with_reducible first|apply X2|apply X8|apply Y2)|((with_reducible apply e_end);(simp;exact Red.rfl))|((first|((with_reducible apply O1);rfl)|((with_reducible apply O2);rfl));(simp (disch:=omega);exact Red.rfl);exact Red.rfl;(focus (first|(simp;done)|omega|(simp;omega))))|((with_reducible apply Z9);(simp (disch:=omega);exact Red.rfl)))
        refine q_again ⟨i + 1, by omega⟩ (by dsimp only; omega) (.inr ?_)
        simp only [e1, e2]
        exact le_take (G := [_, _, _]) (by simp; omega) (by simp [Red]; omega)
      | false =>
        simp only [Bool.false_eq_true, if_false, Int.add_zero] at e1 e2
        repeat (first|(with_reducible first|apply X2|apply X5|apply X8|apply Y2)|((with_reducible apply e_end);(simp;exact Red.rfl))|((with_reducible apply O1);rfl;(simp (disch:=omega);exact Red.rfl);exact Red.rfl;(focus (first|(simp;done)|omega|(simp;omega))))|((with_reducible apply W3);(simp (disch:=omega);exact Red.rfl)))
        refine q_again ⟨i + 1, by omega⟩ (by dsimp only; omega) (.inr ?_)
        simp only [e1, e2]
        exact le_take (G := [_, _, _]) (by simp; omega) (by simp [Red]; omega)
    · have hlt2 : ¬ (i : Int) < h := by omega
      obtain rfl : i = h := by omega
      repeat (first|(with_reducible first|apply X1|apply X2|apply X3|apply X4|apply X8|apply Y1|apply Y4|apply Y6)|((with_reducible apply e_end);(simp;exact Red.rfl))|((first|((with_reducible apply O1);rfl)|((with_reducible apply O2);rfl));(simp (disch:=omega) [hlt2];exact Red.rfl);exact Red.rfl;(focus (first|(simp;done)|omega|(simp;omega))))|((with_reducible apply W3);(simp (disch:=omega) [hlt2];exact Red.rfl)))
      refine q_drop (.inr rfl) (by simp; exact Red.rfl) (by simp) ⟨rfl, rfl⟩
theorem okPl_iff {c : Cv} {n : Nat} (hc : c.ok n) {h : Nat} (hh : h < c.hs.length) (m : Nat) : (m : Int) ≤ handsF c h ↔ (m : Int) ≤ (c.h h).crew ∧ ¬ (0 < m ∧ (c.h h).cold = false) := by
  have h2 := hc.hok h hh
  rw [← Cv.h_eq hh] at h2
  have := h2.2.2.1
  simp only [handsF]
  cases (c.h h).cold <;> simp <;> omega
theorem c_r2Valid (H : Heap) (c : Cv) (p : Plc) (m : Nat) (hp : CvAt H c p) (hc : c.ok m) (hm : m ≤ 12) (pl : AV) (n : Nat) (L : Nat → List Int) (hpl : PlAt H pl n L) (hL : ∀ k, k < n → ((L k).length : Int) < 1000000) (hn : (n : Int) < 1000000) {b : Bool} (hb : b = true ↔ n = c.hs.length ∧ okPl c L) :
    ACalls Try.prog F.ref02_Valid [.agg (c.av p), pl] H (fun v h' => v = .bool b ∧ h' = H) := by
  have hp1 := hp.t
  have hp2 := rd_lt hp.b
  have hp3 := rd_lt hp.h
  have h8 := hc.hours
  have hlen := hc.len
  obtain ⟨pid, poff, pex, rfl, hpid, hrow⟩ := hpl.get
  have no : ¬ (n = c.hs.length ∧ okPl c L) → AV.bool false = AV.bool b := fun h => by
    rw [AV.bool.injEq]; cases b; rfl; exact absurd (hb.1 rfl) h
  have hix4 := fun k (hk : k < c.hs.length) => rd_sub' (hp.hour hk) 4 1 (by omega)
  have hix3 := fun k (hk : k < c.hs.length) => rd_sub' (hp.hour hk) 3 1 (by omega)
  have hiff := fun k (hk : k < c.hs.length) => okPl_iff hc hk (L k).length
  simp only [Cv.av] at *
  refine acalls_of ok_ref02_Valid rfl fun hcl => ?_
  unfold ac_ref02_Valid
  simp only [argsT, Nat.zero_add, Nat.reduceAdd]
  by_cases hnl : n = c.hs.length
  rotate_left
  · have hnl2 : ¬ (n : Int) = c.hs.length := by omega
    repeat (first|(with_reducible first|apply X1|apply X2|apply X3|apply X8|apply X9)|((with_reducible apply e_end);(simp;exact Red.rfl))|((with_reducible apply O1);rfl;(simp (disch:=omega) [hnl2];exact Red.rfl);exact Red.rfl;(focus (first|(simp;done)|omega|(simp;omega))))|((with_reducible apply Z9);(simp (disch:=omega) [hnl2];exact Red.rfl)))
    refine q_drop (.inr rfl) (by simp; exact Red.rfl) (by simp) ⟨no fun h => hnl h.1, rfl⟩
  subst hnl
  repeat (first|(with_reducible first|apply X1|apply X2|apply X5|apply X6|apply X8)|((with_reducible apply e_end);(simp;exact Red.rfl))|((with_reducible apply O1);rfl;(simp (disch:=omega);exact Red.rfl);exact Red.rfl;(focus (first|(simp;done)|omega|(simp;omega))))|((with_reducible apply W3);(simp (disch:=omega);exact Red.rfl)))
  refine e_loop (ι := { i : Nat // i ≤ c.hs.length ∧ ∀ h, h < c.hs.length → h < i → ((L h).length : Int) ≤ handsF c h ∧ okL c.bs.length (L h) })
    (fun i => [(1, .slice pid poff c.hs.length 1 pex), (2, .ptr H.length 0), (5, .int .i64 i.1)])
    (fun _ => H ++ [.cells (c.av p) true]) (fun i => c.hs.length - i.1) ⟨0, by simp⟩ ?_ ?_
  · simp only [Cv.av]; exact .inl rfl
  · rintro ⟨i, hi1, hi2⟩
    simp only [Cv.av]
    by_cases hlt : i < c.hs.length
    · have hlt2 : (i : Int) < c.hs.length := by omega
      obtain ⟨x, hx, hix⟩ := hrow i hlt
      have hxs' : ∀ k, x.sc (H.length + k) = true := fun k => RAt.sc hix (by omega)
      have noi : ¬ (((L i).length : Int) ≤ handsF c i ∧ okL c.bs.length (L i)) → AV.bool false = AV.bool b := fun h => no fun h2 => h (h2.2 i hlt)
      have hix4 := hix4 i hlt
      have hix3 := hix3 i hlt
      have hiff := hiff i hlt
      have hLi := hL i hlt
      generalize hhd : handsF c i = hd at *
      generalize c.h i = hr at *
      obtain ⟨z1, z2, z3, z4, z5⟩ := hr
      simp only [Hr.av, List.drop_succ_cons, List.drop_zero, List.take_succ_cons, List.take_zero] at hix3 hix4 hiff
      generalize hl : L i = l at *
      repeat (first|(with_reducible first|apply X1|apply X2|apply X5|apply X6|apply X8|apply Y9)|((with_reducible apply e_end);(simp;exact Red.rfl))|((first|((with_reducible apply O1);rfl)|((with_reducible apply P1);rfl)|((with_reducible apply P2);rfl));(simp (disch:=omega) [hlt, hlt2, rd_old _ hpid, hx];exact Red.rfl);exact Red.rfl;(focus (first|(simp;done)|omega|(simp;omega))))|((with_reducible apply Z9);(simp (disch:=omega) [hlt, hlt2, rd_old _ hpid, hx];exact Red.rfl)))
      refine d_cut (fun t' h' => ∃ b' : Bool, t' = [(1, .slice pid poff c.hs.length 1 pex), (2, .ptr H.length 0), (5, .int .i64 i), (47, .bool b')] ∧ h' = H ++ [.cells (c.av p) true] ∧ (b' = false ↔ (l.length : Int) ≤ hd)) ?_ ?_
      · (with_reducible apply P1); rfl; exact RAt.len hix _ (by simp); exact Red.rfl; trivial
        repeat ((first|((with_reducible apply P1);rfl)|((with_reducible apply P2);rfl));(simp (disch:=omega) [hlt, rd_old _ hp3, hix3];exact Red.rfl);exact Red.rfl;(focus (first|(simp;done)|omega|(simp;omega))))
        by_cases hk1 : z4 < l.length
        · repeat (first|((with_reducible apply d_end);(simp;exact Red.rfl))|((with_reducible apply P1);rfl;(simp (disch:=omega) [hk1];exact Red.rfl);exact Red.rfl;(focus (first|(simp;done)|omega|(simp;omega))))|((with_reducible apply Z6);(simp (disch:=omega) [hk1];exact Red.rfl))|((with_reducible apply W2);(simp (disch:=omega) [hk1];exact Red.rfl)))
          exact q_keep ⟨true, rfl, rfl, by simp only [Bool.true_eq_false, false_iff]; intro h; have := (hiff.1 h).1; omega⟩
        repeat (first|((first|((with_reducible apply P1);rfl)|((with_reducible apply P2);rfl));(simp (disch:=omega) [hk1, hlt, rd_old _ hpid, hx];exact Red.rfl);exact Red.rfl;(focus (first|(simp;done)|omega|(simp;omega))))|((with_reducible apply Z8);(simp (disch:=omega) [hk1, hlt, rd_old _ hpid, hx];exact Red.rfl)))
        (with_reducible apply P1); rfl; exact RAt.len hix _ (by simp); exact Red.rfl; trivial
        by_cases hk0 : 0 < l.length
        · have hk02 : (0 : Int) < l.length := by omega
          cases z5 with
          | false =>
            repeat (first|((with_reducible apply d_end);(simp;exact Red.rfl))|((first|((with_reducible apply P1);rfl)|((with_reducible apply P2);rfl));(simp (disch:=omega) [hk1, hk0, hk02, hlt, rd_old _ hp3, hix4];exact Red.rfl);exact Red.rfl;(focus (first|(simp;done)|omega|(simp;omega))))|((with_reducible apply Z8);(simp (disch:=omega) [hk1, hk0, hk02, hlt, rd_old _ hp3, hix4];exact Red.rfl)))
            exact q_keep ⟨true, rfl, rfl, by simp only [Bool.true_eq_false, false_iff]; intro h; exact (hiff.1 h).2 ⟨hk0, rfl⟩⟩
          | true =>
            repeat (first|((with_reducible apply d_end);(simp;exact Red.rfl))|((first|((with_reducible apply P1);rfl)|((with_reducible apply P2);rfl));(simp (disch:=omega) [hk1, hk0, hk02, hlt, rd_old _ hp3, hix4];exact Red.rfl);exact Red.rfl;(focus (first|(simp;done)|omega|(simp;omega))))|((with_reducible apply Z8);(simp (disch:=omega) [hk1, hk0, hk02, hlt, rd_old _ hp3, hix4];exact Red.rfl)))
            exact q_keep ⟨false, rfl, rfl, by simp only [true_iff]; exact hiff.2 ⟨by omega, by simp⟩⟩
        · have hk02 : ¬ (0 : Int) < l.length := by omega
          repeat (first|((with_reducible apply d_end);(simp;exact Red.rfl))|((with_reducible apply P1);rfl;(simp (disch:=omega) [hk1, hk0, hk02];exact Red.rfl);exact Red.rfl;(focus (first|(simp;done)|omega|(simp;omega))))|((with_reducible apply Z8);(simp (disch:=omega) [hk1, hk0, hk02];exact Red.rfl))|((with_reducible apply Z5);(simp (disch:=omega) [hk1, hk0, hk02];exact Red.rfl)))
          exact q_keep ⟨false, rfl, rfl, by simp only [true_iff]; exact hiff.2 ⟨by omega, by simp [hk0]⟩⟩
      rintro _ _ ⟨b', rfl, rfl, hb'⟩
      cases b' with
      | true =>
        repeat (first|(with_reducible first|apply X1|apply X2|apply X3|apply X8|apply X9|apply Y3|apply Y5)|((with_reducible apply e_end);(simp;exact Red.rfl))|((with_reducible apply O1);rfl;(simp (disch:=omega);exact Red.rfl);exact Red.rfl;(focus (first|(simp;done)|omega|(simp;omega))))|((with_reducible apply Z9);(simp (disch:=omega);exact Red.rfl)))
        refine q_drop (.inr rfl) (by simp; exact Red.rfl) (by simp) ⟨noi (fun h => by have := hb'.2 h.1; cases this), rfl⟩
      | false =>
      have hb' := hb'.1 rfl
      repeat (first|(with_reducible first|apply X1|apply X2|apply X5|apply X6|apply X8)|((with_reducible apply e_end);(simp;exact Red.rfl))|((with_reducible apply O1);rfl;(simp (disch:=omega);exact Red.rfl);exact Red.rfl;(focus (first|(simp;done)|omega|(simp;omega))))|((with_reducible apply W3);(simp (disch:=omega);exact Red.rfl)))
      refine e_loop (ι := { k : Nat // k ≤ l.length ∧ ∀ j (hj : j < l.length), j < k → (0 ≤ l[j] ∧ l[j] < c.bs.length) ∧ ∀ _ : 0 < j, (l[j - 1]'(by omega)) < l[j] })
        (fun k => [(1, .slice pid poff c.hs.length 1 pex), (2, .ptr H.length 0), (5, .int .i64 i), (6, .int .i64 k.1)])
        (fun _ => H ++ [.cells (c.av p) true]) (fun k => l.length - k.1) ⟨0, by simp⟩ ?_ ?_
      · simp only [Cv.av]; exact .inl rfl
      · rintro ⟨k, hk1, hk2⟩
        simp only [Cv.av]
        repeat (first|(with_reducible first|apply X1|apply X2)|((with_reducible apply O1);rfl;(simp (disch:=omega) [hlt, rd_old _ hpid, hx];exact Red.rfl);exact Red.rfl;(focus (first|(simp;done)|omega|(simp;omega)))))
        (with_reducible apply e_op); rfl; exact RAt.len hix _ (by simp); exact Red.rfl; trivial
        by_cases hkl : k < l.length
        · have hkl2 : (k : Int) < l.length := by omega
          have hy := fun h0 : 0 < k => IAt.get hix (show k - 1 < l.length by omega)
          obtain ⟨id, off, ex, rfl, hx1, hid⟩ := IAt.get hix hkl
          have nol : ¬ ((0 ≤ l[k] ∧ l[k] < c.bs.length) ∧ ∀ _ : 0 < k, (l[k - 1]'(by omega)) < l[k]) → AV.bool false = AV.bool b := fun h => noi fun h2 => h (h2.2 k hkl)
          have nx : ((0 ≤ l[k] ∧ l[k] < c.bs.length) ∧ ∀ _ : 0 < k, (l[k - 1]'(by omega)) < l[k]) → ∀ j (hj : j < l.length), j < k + 1 → (0 ≤ l[j] ∧ l[j] < c.bs.length) ∧ ∀ _ : 0 < j, (l[j - 1]'(by omega)) < l[j] := fun h j hj hji => by
            rcases Nat.lt_or_ge j k with h1 | h1
            · exact hk2 j hj h1
            · obtain rfl : j = k := by omega
              exact h
          obtain ⟨b1, h1⟩ := bof (0 ≤ l[k] ∧ l[k] ≤ (c.bs.length : Int) - 1)
          repeat (first|(with_reducible first|apply X1|apply X5|apply X6|apply X8|apply Y9)|((with_reducible apply e_end);(simp;exact Red.rfl))|((first|((with_reducible apply O1);rfl)|((with_reducible apply P1);rfl)|((with_reducible apply P2);rfl));(simp (disch:=omega) [hkl, hkl2, hlt, rd_old _ hpid, hx, rd_old _ hid, hx1];exact Red.rfl);exact Red.rfl;(focus (first|(simp;done)|omega|(simp;omega))))|((with_reducible apply Z9);(simp (disch:=omega) [hkl, hkl2, hlt, rd_old _ hpid, hx, rd_old _ hid, hx1];exact Red.rfl)))
          (with_reducible apply d_call); (simp; exact Red.rfl); exact c_r2within _ _ _ _ h1; (focus (first | (simp; done) | (simp; omega)))
          cases b1 with
          | false =>
            repeat (first|(with_reducible first|apply X1|apply X2|apply X3|apply X8|apply X9|apply Y3|apply Y5)|((with_reducible first|apply e_end|apply d_end);(simp;exact Red.rfl))|((first|((with_reducible apply O1);rfl)|((with_reducible apply P1);rfl));(simp (disch:=omega);exact Red.rfl);exact Red.rfl;(focus (first|(simp;done)|omega|(simp;omega))))|((with_reducible apply Z9);(simp (disch:=omega);exact Red.rfl))|((with_reducible apply Z6);(simp (disch:=omega);exact Red.rfl))|((with_reducible apply W2);(simp (disch:=omega);exact Red.rfl)))
            refine q_drop (.inr rfl) (by simp; exact Red.rfl) (by simp) ⟨nol (fun h => by have := h1.2 ⟨h.1.1, by omega⟩; cases this), rfl⟩
          | true =>
          have h1 := h1.1 rfl
          by_cases h0 : 0 < k
          · have h02 : (0 : Int) < k := by omega
            obtain ⟨id', off', ex', e1, hy, _⟩ := hy h0
            cases e1
            have hi1 : ((k : Int) - 1).toNat = k - 1 := by omega
            have hi3 : (0 : Int) ≤ (k : Int) - 1 := by omega
            have hi4 : (k : Int) - 1 < l.length := by omega
            by_cases hk : l[k] ≤ (l[k - 1]'(by omega))
            · repeat (first|(with_reducible first|apply X1|apply X2|apply X3|apply X8|apply X9|apply Y3|apply Y5)|((with_reducible first|apply e_end|apply d_end);(simp;exact Red.rfl))|((first|((with_reducible apply O1);rfl)|((with_reducible apply P1);rfl)|((with_reducible apply P2);rfl));(simp (disch:=omega) [h0, h02, hkl, hkl2, hlt, rd_old _ hpid, hx, rd_old _ hid, hx1, hy, hk, hi1, hi3, hi4];exact Red.rfl);exact Red.rfl;(focus (first|(simp;done)|omega|(simp;omega))))|((with_reducible first|apply Z8|apply Z9);(simp (disch:=omega) [h0, h02, hkl, hkl2, hlt, rd_old _ hpid, hx, rd_old _ hid, hx1, hy, hk, hi1, hi3, hi4];exact Red.rfl)))
              refine q_drop (.inr rfl) (by simp; exact Red.rfl) (by simp) ⟨nol (fun h => by have := h.2 h0; omega), rfl⟩
            · repeat (first|(with_reducible first|apply X2|apply X5|apply X8|apply Y2)|((with_reducible first|apply e_end|apply d_end);(simp;exact Red.rfl))|((first|((with_reducible apply O1);rfl)|((with_reducible apply P1);rfl)|((with_reducible apply P2);rfl));(simp (disch:=omega) [h0, h02, hkl, hkl2, hlt, rd_old _ hpid, hx, rd_old _ hid, hx1, hy, hk, hi1, hi3, hi4];exact Red.rfl);exact Red.rfl;(focus (first|(simp;done)|omega|(simp;omega))))|((with_reducible apply Z8);(simp (disch:=omega) [h0, h02, hkl, hkl2, hlt, rd_old _ hpid, hx, rd_old _ hid, hx1, hy, hk, hi1, hi3, hi4];exact Red.rfl))|((with_reducible apply W3);(simp (disch:=omega) [h0, h02, hkl, hkl2, hlt, rd_old _ hpid, hx, rd_old _ hid, hx1, hy, hk, hi1, hi3, hi4];exact Red.rfl)))
              exact q_again ⟨k + 1, hkl, nx ⟨⟨h1.1, by omega⟩, fun _ => by omega⟩⟩ (by dsimp only; omega) (.inl (by simp))
          · have h02 : ¬ (0 : Int) < k := by omega
            repeat (first|(with_reducible first|apply X2|apply X5|apply X8|apply Y2)|((with_reducible first|apply e_end|apply d_end);(simp;exact Red.rfl))|((first|((with_reducible apply O1);rfl)|((with_reducible apply P1);rfl));(simp (disch:=omega) [h0, h02];exact Red.rfl);exact Red.rfl;(focus (first|(simp;done)|omega|(simp;omega))))|((with_reducible apply Z8);(simp (disch:=omega) [h0, h02];exact Red.rfl))|((with_reducible apply Z5);(simp (disch:=omega) [h0, h02];exact Red.rfl))|((with_reducible apply W3);(simp (disch:=omega) [h0, h02];exact Red.rfl)))
            exact q_again ⟨k + 1, hkl, nx ⟨⟨h1.1, by omega⟩, fun h => absurd h h0⟩⟩ (by dsimp only; omega) (.inl (by simp))
        · have hkl2 : ¬ (k : Int) < l.length := by omega
          repeat (first|(with_reducible first|apply X2|apply X4|apply X8|apply Y1|apply Y2|apply Y4|apply Y6)|((with_reducible apply e_end);(simp;exact Red.rfl))|((with_reducible apply O1);rfl;(simp (disch:=omega) [hkl2];exact Red.rfl);exact Red.rfl;(focus (first|(simp;done)|omega|(simp;omega))))|((with_reducible apply W3);(simp (disch:=omega) [hkl2];exact Red.rfl)))
          refine q_again ⟨i + 1, hlt, ?_⟩ (by dsimp only; omega) (.inl (by simp))
          intro j hj hji
          rcases Nat.lt_or_ge j i with h | h
          · exact hi2 j hj h
          · obtain rfl : j = i := by omega
            rw [hl, hhd]
            exact ⟨hb', fun j hj => hk2 j hj (by omega)⟩
    · have hlt2 : ¬ (i : Int) < c.hs.length := by omega
      repeat (first|(with_reducible first|apply X1|apply X2|apply X3|apply X4|apply X8|apply Y1|apply Y4|apply Y6)|((with_reducible apply e_end);(simp;exact Red.rfl))|((with_reducible apply O1);rfl;(simp (disch:=omega) [hlt2];exact Red.rfl);exact Red.rfl;(focus (first|(simp;done)|omega|(simp;omega))))|((with_reducible apply W3);(simp (disch:=omega) [hlt2];exact Red.rfl)))
      refine q_drop (.inr rfl) (by simp; exact Red.rfl) (by simp) ⟨by rw [AV.bool.injEq]; exact (hb.2 ⟨rfl, fun h hh => hi2 h hh (by omega)⟩).symm, rfl⟩
end Go.Proofs
/- Ice: what the reference tells of losses and thickness. -/
namespace Go.Proofs
open Go.Abs
attribute [local simp] AOp.den AOpd.ev lk cellsOf rd_new rd_new0 rd_zero rd_succ wr_new wr_new0 wr_zero wr_succ splice fillA binA scal sliceCells List.length_append argsT AV.sc scL AObj.sc resV getAll AR.get AOp.slots opdSlots opdsSlots partSlots eqAt at_new0 at_new set_new0 set_new wrap64
set_option linter.unusedSimpArgs false
set_option linter.unusedVariables false
theorem c_r2LossG (H : Heap) (l : List Str) (c : Cv) (p : Plc) (hp : CvAt H c p) (ht : TrAt H l p) (hn : (l.length : Int) < 1000000) (hn1 : (c.bs.length : Int) < 1000000) (hn2 : (c.hs.length : Int) < 1000000) (s h : Int) :
    ACalls Try.prog F.ref02_Loss [.agg (c.av p), .int .i64 s, .int .i64 h] H (fun v h' => h' = H ∧ ∃ lo hi e : Int, v = .tuple [.agg [.int .i64 lo, .int .i64 hi], .int .i64 e] ∧ lossE l c s h lo hi e) := by
  have k0 := fun G => c_r2Check (H ++ G) l c p (hp.app G) (ht.app G) hn hn1 hn2
  have hp1 := hp.t
  have hp2 := rd_lt hp.b
  have hp3 := rd_lt hp.h
  have hpa := fun G => hp.app G
  simp only [Cv.av] at *
  refine acalls_of ok_ref02_Loss rfl fun hcl => ?_
  unfold ac_ref02_Loss
  simp only [argsT, Nat.zero_add, Nat.reduceAdd]
  repeat (first|(with_reducible first|apply X1|apply X2|apply X8)|((with_reducible apply e_end);(simp;exact Red.rfl))|((with_reducible apply O1);rfl;(simp (disch:=omega);exact Red.rfl);exact Red.rfl;(focus (first|(simp;done)|omega|(simp;omega)))))
  (with_reducible apply e_call); (simp; exact Red.rfl); exact k0 _
  rintro _ _ ⟨rfl, e, rfl, hv | hv⟩
  rotate_left
  · have he : e ≠ 0 := by rcases hv with h | h <;> omega
    have hno : ¬ (validL l ∧ c.ok l.length) := by rintro ⟨h1, h2⟩; exact hv.elim (fun h => h.1 h1) (fun h => h.2.1 h2)
    repeat (first|(with_reducible first|apply X1|apply X2|apply X3|apply X8|apply X9)|((with_reducible apply e_end);(simp;exact Red.rfl))|((first|((with_reducible apply O1);rfl)|((with_reducible apply O2);rfl));(simp (disch:=omega) [he];exact Red.rfl);exact Red.rfl;(focus (first|(simp;done)|omega|(simp;omega))))|((with_reducible apply Z9);(simp (disch:=omega) [he];exact Red.rfl)))
    refine q_drop (.inr rfl) (by simp; exact Red.rfl) (by simp) ⟨rfl, 0, 0, e, rfl, .inl ⟨hno, .inr hv, he, rfl, rfl⟩⟩
  obtain ⟨hv, hc, rfl⟩ := hv
  have h12 := hv.1
  have hlen := hc.len
  have h8 := hc.hours
  obtain ⟨b1, h1⟩ := bof (0 ≤ s ∧ s ≤ (c.bs.length : Int) - 1)
  obtain ⟨b2, h2⟩ := bof (0 ≤ h ∧ h ≤ (c.hs.length : Int) - 1)
  have no : (b1 = false ∨ b2 = false) → lossE l c s h 0 0 2 := fun hb => by
    refine .inr (.inl ⟨hv, hc, ?_, rfl, rfl, rfl⟩)
    rintro ⟨h3, h4⟩
    rcases hb with rfl | rfl
    · have := h1.2 ⟨h3.1, by omega⟩; cases this
    · have := h2.2 ⟨h4.1, by omega⟩; cases this
  repeat (first|(with_reducible first|apply X1|apply X2|apply X5|apply X8)|((with_reducible apply e_end);(simp;exact Red.rfl))|((with_reducible apply O1);rfl;(simp (disch:=omega);exact Red.rfl);exact Red.rfl;(focus (first|(simp;done)|omega|(simp;omega))))|((with_reducible apply W3);(simp (disch:=omega);exact Red.rfl)))
  (with_reducible apply e_call); (simp; exact Red.rfl); exact c_r2within _ _ _ _ h1
  rintro _ _ ⟨rfl, rfl⟩
  cases b1 with
  | false =>
    repeat (first|(with_reducible first|apply X1|apply X2|apply X3|apply X8|apply X9)|((with_reducible apply e_end);(simp;exact Red.rfl))|((first|((with_reducible apply O1);rfl)|((with_reducible apply O2);rfl));(simp (disch:=omega);exact Red.rfl);exact Red.rfl;(focus (first|(simp;done)|omega|(simp;omega))))|((with_reducible apply Z9);(simp (disch:=omega);exact Red.rfl))|((with_reducible apply Z2);(simp (disch:=omega);exact Red.rfl)))
    refine q_drop (.inr rfl) (by simp; exact Red.rfl) (by simp) ⟨rfl, 0, 0, 2, rfl, no (.inl rfl)⟩
  | true =>
    repeat (first|((with_reducible apply O1);rfl;(simp (disch:=omega);exact Red.rfl);exact Red.rfl;(focus (first|(simp;done)|omega|(simp;omega))))|((with_reducible apply Z7);(simp (disch:=omega);exact Red.rfl)))
    (with_reducible apply e_call); (simp; exact Red.rfl); exact c_r2within _ _ _ _ h2
    rintro _ _ ⟨rfl, rfl⟩
    cases b2 with
    | false =>
      repeat (first|(with_reducible first|apply X1|apply X2|apply X3|apply X8|apply X9)|((with_reducible apply e_end);(simp;exact Red.rfl))|((first|((with_reducible apply O1);rfl)|((with_reducible apply O2);rfl));(simp (disch:=omega);exact Red.rfl);exact Red.rfl;(focus (first|(simp;done)|omega|(simp;omega))))|((with_reducible first|apply Z7|apply Z9);(simp (disch:=omega);exact Red.rfl)))
      refine q_drop (.inr rfl) (by simp; exact Red.rfl) (by simp) ⟨rfl, 0, 0, 2, rfl, no (.inr rfl)⟩
    | true =>
      have h1 := h1.1 rfl
      have h2 := h2.1 rfl
      obtain ⟨s, rfl⟩ : ∃ n : Nat, s = n := ⟨s.toNat, by omega⟩
      obtain ⟨h, rfl⟩ : ∃ n : Nat, h = n := ⟨h.toNat, by omega⟩
      have hs : s < c.bs.length := by omega
      have hh : h < c.hs.length := by omega
      have cl := fun G => c_r2loss (H ++ G) c p _ (hpa G) hc s h hs hh
      simp only [Cv.av] at cl
      repeat (first|(with_reducible first|apply X1|apply X2|apply X5|apply X8)|((with_reducible apply e_end);(simp;exact Red.rfl))|((with_reducible apply O1);rfl;(simp (disch:=omega);exact Red.rfl);exact Red.rfl;(focus (first|(simp;done)|omega|(simp;omega))))|((with_reducible apply Z7);(simp (disch:=omega);exact Red.rfl))|((with_reducible apply W3);(simp (disch:=omega);exact Red.rfl)))
      (with_reducible apply e_call); (simp; exact Red.rfl); exact cl _
      rintro _ _ ⟨rfl, rfl⟩
      repeat (first|(with_reducible first|apply X3|apply X8)|((with_reducible apply e_end);(simp;exact Red.rfl))|((first|((with_reducible apply O1);rfl)|((with_reducible apply O2);rfl));(simp (disch:=omega);exact Red.rfl);exact Red.rfl;(focus (first|(simp;done)|omega|(simp;omega)))))
      refine q_drop (.inr rfl) (by simp; exact Red.rfl) (by simp) ⟨rfl, _, _, 0, rfl, .inr (.inr ⟨hv, hc, ⟨⟨by omega, by omega⟩, by omega, by omega⟩, rfl, by simp, by simp⟩)⟩
theorem c_r2ThickG (H : Heap) (l : List Str) (c : Cv) (p : Plc) (hp : CvAt H c p) (ht : TrAt H l p) (hn : (l.length : Int) < 1000000) (hn1 : (c.bs.length : Int) < 1000000) (hn2 : (c.hs.length : Int) < 1000000)
    (pl : AV) (n : Nat) (L : Nat → List Int) (hpl : PlAt H pl n L) (hL : ∀ k, k < n → ((L k).length : Int) < 1000000) (hn3 : (n : Int) < 1000000) (s h : Int) :
    ACalls Try.prog F.ref02_Thick [.agg (c.av p), pl, .int .i64 s, .int .i64 h] H (fun v h' => h' = H ∧ ∃ lo hi e : Int, v = .tuple [.agg [.int .i64 lo, .int .i64 hi], .int .i64 e] ∧ thickE l c n L s h lo hi e) := by
  have k0 := fun G => c_r2Check (H ++ G) l c p (hp.app G) (ht.app G) hn hn1 hn2
  have hp1 := hp.t
  have hp2 := rd_lt hp.b
  have hp3 := rd_lt hp.h
  have hpa := fun G => hp.app G
  have hpla := fun G => hpl.app G
  obtain ⟨pid, poff, pex, rfl, hpid, hrow⟩ := hpl.get
  simp only [Cv.av] at *
  refine acalls_of ok_ref02_Thick rfl fun hcl => ?_
  unfold ac_ref02_Thick
  simp only [argsT, Nat.zero_add, Nat.reduceAdd]
  repeat (first|(with_reducible first|apply X1|apply X2|apply X8)|((with_reducible apply e_end);(simp;exact Red.rfl))|((with_reducible apply O1);rfl;(simp (disch:=omega);exact Red.rfl);exact Red.rfl;(focus (first|(simp;done)|omega|(simp;omega)))))
  (with_reducible apply e_call); (simp; exact Red.rfl); exact k0 _
  rintro _ _ ⟨rfl, e, rfl, hv | hv⟩
  rotate_left
  · have he : e ≠ 0 := by rcases hv with h | h <;> omega
    have hno : ¬ (validL l ∧ c.ok l.length) := by rintro ⟨h1, h2⟩; exact hv.elim (fun h => h.1 h1) (fun h => h.2.1 h2)
    repeat (first|(with_reducible first|apply X1|apply X2|apply X3|apply X8|apply X9)|((with_reducible apply e_end);(simp;exact Red.rfl))|((first|((with_reducible apply O1);rfl)|((with_reducible apply O2);rfl));(simp (disch:=omega) [he];exact Red.rfl);exact Red.rfl;(focus (first|(simp;done)|omega|(simp;omega))))|((with_reducible apply Z9);(simp (disch:=omega) [he];exact Red.rfl)))
    refine q_drop (.inr rfl) (by simp; exact Red.rfl) (by simp) ⟨rfl, 0, 0, e, rfl, .inl ⟨.inr (.inl ⟨hno, .inr hv, he⟩), he, rfl, rfl⟩⟩
  obtain ⟨hv, hc, rfl⟩ := hv
  have h12 := hv.1
  have hlen := hc.len
  have h8 := hc.hours
  obtain ⟨b0, h0⟩ := bof (n = c.hs.length ∧ okPl c L)
  have cV := fun G => c_r2Valid (H ++ G) c p _ (hpa G) hc (by omega) _ n L (hpla G) hL hn3 h0
  simp only [Cv.av] at cV
  repeat (first|(with_reducible first|apply X1|apply X2|apply X5|apply X8)|((with_reducible apply e_end);(simp;exact Red.rfl))|((with_reducible apply O1);rfl;(simp (disch:=omega);exact Red.rfl);exact Red.rfl;(focus (first|(simp;done)|omega|(simp;omega))))|((with_reducible apply W3);(simp (disch:=omega);exact Red.rfl)))
  (with_reducible apply e_call); (simp; exact Red.rfl); exact cV _
  rintro _ _ ⟨rfl, rfl⟩
  cases b0 with
  | false =>
    repeat (first|(with_reducible first|apply X1|apply X2|apply X3|apply X8|apply X9)|((with_reducible apply e_end);(simp;exact Red.rfl))|((first|((with_reducible apply O1);rfl)|((with_reducible apply O2);rfl));(simp (disch:=omega);exact Red.rfl);exact Red.rfl;(focus (first|(simp;done)|omega|(simp;omega))))|((with_reducible apply Z9);(simp (disch:=omega);exact Red.rfl)))
    refine q_drop (.inr rfl) (by simp; exact Red.rfl) (by simp) ⟨rfl, 0, 0, 21, rfl, .inl ⟨.inr (.inr ⟨hv, hc, (fun h => by have := h0.2 h; cases this), rfl⟩), by decide, rfl, rfl⟩⟩
  | true =>
  obtain ⟨rfl, hok⟩ := h0.1 rfl
  obtain ⟨b1, h1⟩ := bof (0 ≤ s ∧ s ≤ (c.bs.length : Int) - 1)
  obtain ⟨b2, h2⟩ := bof (0 ≤ h ∧ h ≤ (c.hs.length : Int))
  have no : (b1 = false ∨ b2 = false) → thickE l c c.hs.length L s h 0 0 2 := fun hb => by
    refine .inr (.inl ⟨hv, hc, ⟨rfl, hok⟩, ?_, rfl, rfl, rfl⟩)
    rintro ⟨h3, h4⟩
    rcases hb with rfl | rfl
    · have := h1.2 ⟨h3.1, by omega⟩; cases this
    · have := h2.2 ⟨h4.1, by omega⟩; cases this
  repeat (first|(with_reducible first|apply X1|apply X2|apply X5|apply X8)|((with_reducible apply e_end);(simp;exact Red.rfl))|((with_reducible apply O1);rfl;(simp (disch:=omega);exact Red.rfl);exact Red.rfl;(focus (first|(simp;done)|omega|(simp;omega))))|((with_reducible apply W3);(simp (disch:=omega);exact Red.rfl)))
  (with_reducible apply e_call); (simp; exact Red.rfl); exact c_r2within _ _ _ _ h1
  rintro _ _ ⟨rfl, rfl⟩
  cases b1 with
  | false =>
    repeat (first|(with_reducible first|apply X1|apply X2|apply X3|apply X8|apply X9)|((with_reducible apply e_end);(simp;exact Red.rfl))|((first|((with_reducible apply O1);rfl)|((with_reducible apply O2);rfl));(simp (disch:=omega);exact Red.rfl);exact Red.rfl;(focus (first|(simp;done)|omega|(simp;omega))))|((with_reducible apply Z9);(simp (disch:=omega);exact Red.rfl))|((with_reducible apply Z2);(simp (disch:=omega);exact Red.rfl)))
    refine q_drop (.inr rfl) (by simp; exact Red.rfl) (by simp) ⟨rfl, 0, 0, 2, rfl, no (.inl rfl)⟩
  | true =>
    repeat (first|((with_reducible apply O1);rfl;(simp (disch:=omega);exact Red.rfl);exact Red.rfl;(focus (first|(simp;done)|omega|(simp;omega))))|((with_reducible apply Z7);(simp (disch:=omega);exact Red.rfl)))
    (with_reducible apply e_call); (simp; exact Red.rfl); exact c_r2within _ _ _ _ h2
    rintro _ _ ⟨rfl, rfl⟩
    cases b2 with
    | false =>
      repeat (first|(with_reducible first|apply X1|apply X2|apply X3|apply X8|apply X9)|((with_reducible apply e_end);(simp;exact Red.rfl))|((first|((with_reducible apply O1);rfl)|((with_reducible apply O2);rfl));(simp (disch:=omega);exact Red.rfl);exact Red.rfl;(focus (first|(simp;done)|omega|(simp;omega))))|((with_reducible first|apply Z7|apply Z9);(simp (disch:=omega);exact Red.rfl)))
      refine q_drop (.inr rfl) (by simp; exact Red.rfl) (by simp) ⟨rfl, 0, 0, 2, rfl, no (.inr rfl)⟩
    | true =>
      have h1 := h1.1 rfl
      have h2 := h2.1 rfl
      obtain ⟨s, rfl⟩ : ∃ n : Nat, s = n := ⟨s.toNat, by omega⟩
      obtain ⟨h, rfl⟩ : ∃ n : Nat, h = n := ⟨h.toNat, by omega⟩
      have hs : s < c.bs.length := by omega
      have hh : h ≤ c.hs.length := by omega
      have cl := fun G => c_r2thick (H ++ G) c p _ (hpa G) hc (by omega) _ L (hpla G) hL s h hs hh
      simp only [Cv.av] at cl
      repeat (first|(with_reducible first|apply X1|apply X2|apply X5|apply X8)|((with_reducible apply e_end);(simp;exact Red.rfl))|((with_reducible apply O1);rfl;(simp (disch:=omega);exact Red.rfl);exact Red.rfl;(focus (first|(simp;done)|omega|(simp;omega))))|((with_reducible apply Z7);(simp (disch:=omega);exact Red.rfl))|((with_reducible apply W3);(simp (disch:=omega);exact Red.rfl)))
      (with_reducible apply e_call); (simp; exact Red.rfl); exact cl _
      rintro _ _ ⟨rfl, rfl⟩
      repeat (first|(with_reducible first|apply X3|apply X8)|((with_reducible apply e_end);(simp;exact Red.rfl))|((first|((with_reducible apply O1);rfl)|((with_reducible apply O2);rfl));(simp (disch:=omega);exact Red.rfl);exact Red.rfl;(focus (first|(simp;done)|omega|(simp;omega)))))
      refine q_drop (.inr rfl) (by simp; exact Red.rfl) (by simp) ⟨rfl, _, _, 0, rfl, .inr (.inr ⟨hv, hc, ⟨rfl, hok⟩, ⟨⟨by omega, by omega⟩, by omega, by omega⟩, rfl, by simp, by simp⟩)⟩
end Go.Proofs
/- Ice: copies of plans, and comparisons. -/
namespace Go.Proofs
open Go.Abs
attribute [local simp] AOp.den AOpd.ev lk cellsOf rd_new rd_new0 rd_zero rd_succ wr_new wr_new0 wr_zero wr_succ splice fillA binA scal sliceCells List.length_append argsT AV.sc scL AObj.sc resV getAll AR.get AOp.slots opdSlots opdsSlots partSlots eqAt at_new0 at_new set_new0 set_new wrap64
set_option linter.unusedSimpArgs false
set_option linter.unusedVariables false
theorem IAt.scal {h : Heap} {v : AV} {l : List Int} (hl : IAt h v l) : Abs.scal v = true := by
  obtain ⟨_, ⟨rfl, _⟩ | ⟨id, off, ex, rfl, _⟩⟩ := hl <;> rfl
theorem rwV_scal {vs : Nat → AV} {n : Nat} (h : ∀ k, k < n → Abs.scal (vs k) = true) : (rwV vs n).all Abs.scal = true := by
  simp only [rwV, List.all_eq_true, List.mem_map, List.mem_range]
  rintro x ⟨k, hk, rfl⟩; exact h k hk
theorem get3d {H : Heap} {a b b' : AObj} {G : Heap} {i : Nat} (h : i ≠ H.length + 1) : (H ++ a :: b :: G)[i]? = (H ++ a :: b' :: G)[i]? := by
  rcases Nat.lt_or_ge i H.length with h1 | h1
  · rw [List.getElem?_append_left h1, List.getElem?_append_left h1]
  · rw [List.getElem?_append_right h1, List.getElem?_append_right h1]
    rcases Nat.eq_zero_or_pos (i - H.length) with h2 | h2
    · rw [h2]; rfl
    · obtain ⟨k, hk⟩ : ∃ k, i - H.length = k + 2 := ⟨i - H.length - 2, by omega⟩
      rw [hk]; rfl
theorem c_TwinPlan (H : Heap) (pl : AV) (n : Nat) (L : Nat → List Int) (hpl : PlAt H pl n L) (hn : n ≤ 12) (hL : ∀ k, k < n → (L k).length ≤ 20) :
    ACalls Try.prog F.ref02_TwinPlan [pl] H (fun v h' => ∃ G, h' = H ++ G ∧ PlAt h' v n L) := by
  obtain ⟨pid, poff, pex, vs0, rfl, hr, hvs⟩ := hpl
  have hpid := rd_lt hr
  have hsc := rwV_scal (vs := vs0) (n := n) fun k hk => (hvs k hk).scal
  have hle : n * 24 ≤ 140737488355328 := by omega
  rw [Nat.mul_one] at hr
  change rd H pid poff n = some (rwV vs0 n) at hr
  refine acalls_of ok_ref02_TwinPlan rfl fun hcl => ?_
  unfold ac_ref02_TwinPlan
  simp only [argsT, Nat.zero_add, Nat.reduceAdd]
  repeat (first|(with_reducible first|apply X1|apply X2|apply X6|apply X8)|((with_reducible apply e_end);(simp;exact Red.rfl))|((with_reducible apply O1);rfl;(simp (disch:=omega) [rd_old _ hpid, hr, hsc, hle];exact Red.rfl);exact Red.rfl;(focus (first|(simp;done)|omega|(simp;omega)))))
  refine e_loop (ι := { x : Nat × (Nat → AV) × Heap // x.1 ≤ n ∧ ∀ k, k < n → IAt (H ++ .dead :: .cells (rwV x.2.1 n) true :: x.2.2) (x.2.1 k) (L k) ∧ ∀ j, isId (x.2.1 k) j → j ≠ H.length + 1 })
    (fun x => [(3, .slice (H.length + 1) 0 n 1 false), (4, .int .i64 x.1.1)])
    (fun x => H ++ .dead :: .cells (rwV x.1.2.1 n) true :: x.1.2.2) (fun x => n - x.1.1) ⟨(0, vs0, []), by simp, fun k hk => ⟨(hvs k hk).app _, fun j hj => by have := (hvs k hk).lt hj; omega⟩⟩ ?_ ?_
  · exact .inl rfl
  · rintro ⟨⟨i, vs, G⟩, hi, hv⟩
    dsimp only at hi hv ⊢
    by_cases hlt : i < n
    · have hlt2 : (i : Int) < n := by omega
      have hrw := rwV_at vs hlt
      have hrl := rwV_length vs n
      have hle1 : i + 1 ≤ n := by omega
      obtain ⟨hvi, hvn⟩ := hv i hlt
      have hLi := hL i hlt
      repeat (first|(with_reducible first|apply X1|apply X2|apply X5|apply X6|apply X8)|((with_reducible apply e_end);(simp;exact Red.rfl))|((with_reducible apply O1);rfl;(simp (disch:=omega) [hlt, hlt2, hrw, hrl, hle1];exact Red.rfl);exact Red.rfl;(focus (first|(simp;done)|omega|(simp;omega))))|((with_reducible apply Z9);(simp (disch:=omega) [hlt, hlt2, hrw, hrl, hle1];exact Red.rfl)))
      refine e_app (v := .slice (H.length + (G.length + 2)) 0 0 1 true) (cs := []) (n := 0) (m := (L i).length) (new := iv (L i)) (by simp [Nat.add_assoc]; exact Red.rfl) (by simp; exact Red.rfl) (LAt.of (by simp [Nat.add_assoc]) (by simp) true) (by have := (RAt.app hvi [.cells [] true]).cells; simpa using this) (iv_plain _).scal (by omega) ?_
      intro h2 e1 e2 e3
      obtain ⟨G2, rfl⟩ := ext_of (A := H ++ [.dead, .cells (rwV vs n) true]) (h' := h2) (by simp at e1 ⊢; omega) (by
        intro k hk
        simp only [List.length_append, List.length_cons, List.length_nil] at hk
        rw [e2 k (by simp; omega) (fun hid => by have : H.length + (G.length + 2) = k := hid; omega)]
        rw [show H ++ .dead :: .cells (rwV vs n) true :: (G ++ [AObj.cells [] true]) = (H ++ [.dead, .cells (rwV vs n) true]) ++ (G ++ [AObj.cells [] true]) by simp, List.getElem?_append_left (by simp; omega)])
      simp only [List.append_assoc, List.cons_append, List.nil_append, List.length_append, List.length_cons, List.length_nil, Nat.zero_add] at e1 e2 e3 ⊢
      have hput := rwV_put vs hlt (.slice (H.length + (G.length + 1 + 1 + 1)) 0 (L i).length 1 false)
      repeat (first|(with_reducible first|apply X2|apply X8|apply Y2)|((with_reducible apply e_end);(simp;exact Red.rfl))|((first|((with_reducible apply O1);rfl)|((with_reducible apply O2);rfl));(simp (disch:=omega) [hlt, hrl, hle1, -splice, hput];exact Red.rfl);exact Red.rfl;(focus (first|(simp;done)|omega|(simp;omega)))))
      refine q_again ⟨(i + 1, updV vs i (.slice (H.length + (G.length + 1 + 1 + 1)) 0 (L i).length 1 false), G2), by dsimp only; omega, fun k hk => ?_⟩ (by dsimp only; omega) (.inl (by simp))
      dsimp only
      by_cases hki : k = i
      · subst hki
        simp only [updV, if_true]
        refine ⟨RAt.keep e3.r fun j hj => get3d ?_, fun j hj => ?_⟩
        · have : H.length + (G.length + 1 + 1 + 1) = j := hj
          omega
        · have : H.length + (G.length + 1 + 1 + 1) = j := hj
          omega
      · simp only [updV, if_neg hki]
        obtain ⟨h3, h4⟩ := hv k hk
        refine ⟨RAt.keep h3 fun j hj => ?_, h4⟩
        have hlt3 := RAt.lt h3 hj
        simp only [List.length_append, List.length_cons] at hlt3
        rw [get3d (b' := AObj.cells (rwV vs n) true) (h4 j hj), e2 j (by omega) (fun hid => by have : H.length + (G.length + 2) = j := hid; omega)]
        rw [show H ++ AObj.dead :: AObj.cells (rwV vs n) true :: (G ++ [AObj.cells [] true]) = (H ++ AObj.dead :: AObj.cells (rwV vs n) true :: G) ++ [AObj.cells [] true] by simp, List.getElem?_append_left (by simp; omega)]
    · have hlt2 : ¬ (i : Int) < n := by omega
      repeat (first|(with_reducible first|apply X1|apply X2|apply X3|apply X4|apply X8|apply Y1|apply Y4|apply Y6)|((with_reducible apply e_end);(simp;exact Red.rfl))|((with_reducible apply O1);rfl;(simp (disch:=omega) [hlt2];exact Red.rfl);exact Red.rfl;(focus (first|(simp;done)|omega|(simp;omega))))|((with_reducible apply W3);(simp (disch:=omega) [hlt2];exact Red.rfl)))
      refine q_stay (.inr rfl) (by simp; exact Red.rfl) ⟨_, rfl, ?_⟩
      refine ⟨H.length + 1, 0, false, vs, rfl, ?_, fun k hk => (hv k hk).1⟩
      have := rwV_length vs n
      simp only [rd_new, rd_succ, rd_zero, this, Nat.mul_one, Nat.zero_add, Nat.le_refl, if_true, List.drop_zero]
      rw [List.take_of_length_le (by omega)]; rfl
theorem c_r1SameInts (H : Heap) (a b : AV) (l : List Int) (ha : IAt H a l) (hb : IAt H b l) (hn : (l.length : Int) < 1000000) : ACalls Try.prog F.ref01_SameInts [a, b] H (fun v h' => v = .bool true ∧ h' = H) := by
  have hsa : ∀ k, a.sc (H.length + k) = true := fun k => RAt.sc ha (by omega)
  have hsb : ∀ k, b.sc (H.length + k) = true := fun k => RAt.sc hb (by omega)
  refine acalls_of ok_ref01_SameInts rfl fun hcl => ?_
  unfold ac_ref01_SameInts
  simp only [argsT, Nat.zero_add, Nat.reduceAdd]
  repeat (first|(with_reducible first|apply X1|apply X2|apply X8)|((with_reducible apply e_end);(simp;exact Red.rfl))|((with_reducible apply O1);rfl;(simp (disch:=omega);exact Red.rfl);exact Red.rfl;(focus (first|(simp;done)|omega|(simp;omega)))))
  (with_reducible apply e_op); rfl; exact RAt.len ha _ (by simp); exact Red.rfl; trivial
  repeat ((with_reducible apply O1);rfl;(simp (disch:=omega);exact Red.rfl);exact Red.rfl;(focus (first|(simp;done)|omega|(simp;omega))))
  (with_reducible apply e_op); rfl; exact RAt.len hb _ (by simp); exact Red.rfl; trivial
  repeat (first|(with_reducible first|apply X1|apply X2|apply X5|apply X6|apply X8)|((with_reducible apply e_end);(simp;exact Red.rfl))|((with_reducible apply O1);rfl;(simp (disch:=omega);exact Red.rfl);exact Red.rfl;(focus (first|(simp;done)|omega|(simp;omega))))|((with_reducible apply W3);(simp (disch:=omega);exact Red.rfl)))
  refine e_loop (ι := { i : Nat // i ≤ l.length }) (fun i => [(0, a), (1, b), (5, .int .i64 i.1)]) (fun _ => H) (fun i => l.length - i.1) ⟨0, by simp⟩ ?_ ?_
  · exact .inr <| le_id (by simp; exact ⟨hsa 0, hsb 0⟩)
  · rintro ⟨i, hi⟩
    dsimp only
    repeat (first|(with_reducible first|apply X1|apply X2)|((with_reducible apply O1);rfl;(simp (disch:=omega);exact Red.rfl);exact Red.rfl;(focus (first|(simp;done)|omega|(simp;omega)))))
    (with_reducible apply e_op); rfl; exact RAt.len ha _ (by simp); exact Red.rfl; trivial
    by_cases hlt : i < l.length
    · have hlt2 : (i : Int) < l.length := by omega
      obtain ⟨id, off, ex, rfl, hx, hid⟩ := IAt.get ha hlt
      obtain ⟨id', off', ex', rfl, hx', hid'⟩ := IAt.get hb hlt
      repeat (first|(with_reducible first|apply X1|apply X2|apply X5|apply X6|apply X8|apply Y2|apply Y9)|((with_reducible first|apply e_end|apply d_end);(simp;exact Red.rfl))|((first|((with_reducible apply O1);rfl)|((with_reducible apply P1);rfl)|((with_reducible apply P2);rfl));(simp (disch:=omega) [hlt, hlt2, hx, hx'];exact Red.rfl);exact Red.rfl;(focus (first|(simp;done)|omega|(simp;omega))))|((with_reducible apply Z9);(simp (disch:=omega) [hlt, hlt2, hx, hx'];exact Red.rfl))|((with_reducible apply W3);(simp (disch:=omega) [hlt, hlt2, hx, hx'];exact Red.rfl)))
      exact q_again ⟨i + 1, hlt⟩ (by dsimp only; omega) (.inl (by simp))
    · have hlt2 : ¬ (i : Int) < l.length := by omega
      repeat (first|(with_reducible first|apply X1|apply X2|apply X3|apply X4|apply X8|apply Y1|apply Y4|apply Y6)|((with_reducible apply e_end);(simp;exact Red.rfl))|((with_reducible apply O1);rfl;(simp (disch:=omega) [hlt2];exact Red.rfl);exact Red.rfl;(focus (first|(simp;done)|omega|(simp;omega))))|((with_reducible apply W3);(simp (disch:=omega) [hlt2];exact Red.rfl)))
      refine q_stay (.inr rfl) (by simp; exact Red.rfl) ⟨rfl, rfl⟩
theorem c_r2SameInts (H : Heap) (a b : AV) (l : List Int) (ha : IAt H a l) (hb : IAt H b l) (hn : (l.length : Int) < 1000000) : ACalls Try.prog F.ref02_SameInts [a, b] H (fun v h' => v = .bool true ∧ h' = H) := by
  refine acalls_of ok_ref02_SameInts rfl fun hcl => ?_
  unfold ac_ref02_SameInts
  simp only [argsT, Nat.zero_add, Nat.reduceAdd]
  repeat (first|(with_reducible first|apply X1|apply X2|apply X8)|((with_reducible apply e_end);(simp;exact Red.rfl))|((with_reducible apply O1);rfl;(simp (disch:=omega);exact Red.rfl);exact Red.rfl;(focus (first|(simp;done)|omega|(simp;omega)))))
  (with_reducible apply e_call); (simp; exact Red.rfl); exact c_r1SameInts _ _ _ l ha hb hn
  rintro _ _ ⟨rfl, rfl⟩
  repeat (first|(with_reducible first|apply X3|apply X8)|((with_reducible apply e_end);(simp;exact Red.rfl))|((with_reducible apply O1);rfl;(simp (disch:=omega);exact Red.rfl);exact Red.rfl;(focus (first|(simp;done)|omega|(simp;omega)))))
  refine q_stay (.inr rfl) (by simp; exact Red.rfl) ⟨rfl, rfl⟩
theorem c_r2SameLists (H : Heap) (a b : AV) (n : Nat) (L : Nat → List Int) (ha : PlAt H a n L) (hb : PlAt H b n L) (hn : n ≤ 1000) (hL : ∀ k, k < n → ((L k).length : Int) < 1000000) : ACalls Try.prog F.ref02_SameLists [a, b] H (fun v h' => v = .bool true ∧ h' = H) := by
  obtain ⟨aid, aoff, aex, rfl, hai, har⟩ := ha.get
  obtain ⟨bid, boff, bex, rfl, hbi, hbr⟩ := hb.get
  refine acalls_of ok_ref02_SameLists rfl fun hcl => ?_
  unfold ac_ref02_SameLists
  simp only [argsT, Nat.zero_add, Nat.reduceAdd]
  repeat (first|(with_reducible first|apply X1|apply X2|apply X5|apply X6|apply X8)|((with_reducible apply e_end);(simp;exact Red.rfl))|((with_reducible apply O1);rfl;(simp (disch:=omega);exact Red.rfl);exact Red.rfl;(focus (first|(simp;done)|omega|(simp;omega))))|((with_reducible apply W3);(simp (disch:=omega);exact Red.rfl)))
  refine e_loop (ι := { i : Nat // i ≤ n }) (fun i => [(0, .slice aid aoff n 1 aex), (1, .slice bid boff n 1 bex), (5, .int .i64 i.1)]) (fun _ => H) (fun i => n - i.1) ⟨0, by simp⟩ ?_ ?_
  · exact .inr <| le_id (by simp; omega)
  · rintro ⟨i, hi⟩
    dsimp only
    by_cases hlt : i < n
    · have hlt2 : (i : Int) < n := by omega
      obtain ⟨x, hx, hix⟩ := har i hlt
      obtain ⟨y, hy, hiy⟩ := hbr i hlt
      have hsx : ∀ k, x.sc (H.length + k) = true := fun k => RAt.sc hix (by omega)
      have hsy : ∀ k, y.sc (H.length + k) = true := fun k => RAt.sc hiy (by omega)
      have hsx0 := hsx 0
      have hsy0 := hsy 0
      rw [Nat.add_zero] at hsx0 hsy0
      repeat (first|(with_reducible first|apply X1|apply X2|apply X5|apply X6|apply X8|apply Y9)|((with_reducible apply e_end);(simp;exact Red.rfl))|((first|((with_reducible apply O1);rfl)|((with_reducible apply P1);rfl)|((with_reducible apply P2);rfl));(simp (disch:=omega) [hlt, hlt2, hx, hy];exact Red.rfl);exact Red.rfl;(focus (first|(simp;done)|omega|(simp;omega))))|((with_reducible apply Z9);(simp (disch:=omega) [hlt, hlt2, hx, hy];exact Red.rfl)))
      (with_reducible apply d_call); (simp; exact Red.rfl); exact c_r2SameInts _ _ _ _ hix hiy (hL i hlt); (focus (first | (simp [hsx0, hsy0]; done) | (simp [hsx0, hsy0]; omega)))
      repeat (first|(with_reducible first|apply X2|apply X5|apply X8|apply Y2)|((with_reducible first|apply e_end|apply d_end);(simp;exact Red.rfl))|((first|((with_reducible apply O1);rfl)|((with_reducible apply P1);rfl));(simp (disch:=omega);exact Red.rfl);exact Red.rfl;(focus (first|(simp;done)|omega|(simp;omega))))|((with_reducible apply W3);(simp (disch:=omega);exact Red.rfl)))
      exact q_again ⟨i + 1, hlt⟩ (by dsimp only; omega) (.inl (by simp))
    · have hlt2 : ¬ (i : Int) < n := by omega
      repeat (first|(with_reducible first|apply X1|apply X2|apply X3|apply X4|apply X8|apply Y1|apply Y4|apply Y6)|((with_reducible apply e_end);(simp;exact Red.rfl))|((with_reducible apply O1);rfl;(simp (disch:=omega) [hlt2];exact Red.rfl);exact Red.rfl;(focus (first|(simp;done)|omega|(simp;omega))))|((with_reducible apply W3);(simp (disch:=omega) [hlt2];exact Red.rfl)))
      refine q_stay (.inr rfl) (by simp; exact Red.rfl) ⟨rfl, rfl⟩
theorem c_r1Same (H : Heap) (l : List Str) (id off id' off' : Nat) (ex ex' : Bool) (ha : rd H id off (l.length * 9) = some (l.flatMap Str.av)) (hb : rd H id' off' (l.length * 9) = some (l.flatMap Str.av)) (hn : l.length ≤ 1000) :
    ACalls Try.prog F.ref01_Same [.agg [.slice id off l.length 9 ex], .agg [.slice id' off' l.length 9 ex']] H (fun v h' => v = .bool true ∧ h' = H) := by
  have hai := rd_lt ha
  have hbi := rd_lt hb
  refine acalls_of ok_ref01_Same rfl fun hcl => ?_
  unfold ac_ref01_Same
  simp only [argsT, Nat.zero_add, Nat.reduceAdd]
  repeat (first|(with_reducible first|apply X1|apply X2|apply X5|apply X6|apply X8)|((with_reducible apply e_end);(simp;exact Red.rfl))|((with_reducible apply O1);rfl;(simp (disch:=omega);exact Red.rfl);exact Red.rfl;(focus (first|(simp;done)|omega|(simp;omega))))|((with_reducible apply W3);(simp (disch:=omega);exact Red.rfl)))
  refine e_loop (ι := { i : Nat // i ≤ l.length }) (fun i => [(2, .ptr H.length 0), (3, .ptr (H.length + 1) 0), (5, .int .i64 i.1)]) (fun _ => H ++ [.cells [.slice id off l.length 9 ex] true, .cells [.slice id' off' l.length 9 ex'] true]) (fun i => l.length - i.1) ⟨0, by simp⟩ ?_ ?_
  · exact .inl rfl
  · rintro ⟨i, hi⟩
    dsimp only
    by_cases hlt : i < l.length
    · have hlt2 : (i : Int) < l.length := by omega
      have hx := rd_row Str.av_length ha hlt
      have hy := rd_row Str.av_length hb hlt
      generalize l[i] = s at hx hy
      obtain ⟨a1, a2, a3, a4, a5, a6, a7, a8, a9⟩ := s
      simp only [Str.av] at hx hy
      repeat (first|(with_reducible first|apply X1|apply X2|apply X5|apply X6|apply X8|apply Y2|apply Y9)|((with_reducible first|apply e_end|apply d_end);(simp;exact Red.rfl))|((first|((with_reducible apply O1);rfl)|((with_reducible apply P1);rfl)|((with_reducible apply P2);rfl));(simp (disch:=omega) [hlt, hlt2, rd_old _ hai, rd_old _ hbi, hx, hy];exact Red.rfl);exact Red.rfl;(focus (first|(simp;done)|omega|(simp;omega))))|((with_reducible apply Z9);(simp (disch:=omega) [hlt, hlt2, rd_old _ hai, rd_old _ hbi, hx, hy];exact Red.rfl))|((with_reducible apply W3);(simp (disch:=omega) [hlt, hlt2, rd_old _ hai, rd_old _ hbi, hx, hy];exact Red.rfl)))
      exact q_again ⟨i + 1, hlt⟩ (by dsimp only; omega) (.inl (by simp))
    · have hlt2 : ¬ (i : Int) < l.length := by omega
      repeat (first|(with_reducible first|apply X1|apply X2|apply X3|apply X4|apply X8|apply Y1|apply Y4|apply Y6)|((with_reducible apply e_end);(simp;exact Red.rfl))|((with_reducible apply O1);rfl;(simp (disch:=omega) [hlt2];exact Red.rfl);exact Red.rfl;(focus (first|(simp;done)|omega|(simp;omega))))|((with_reducible apply W3);(simp (disch:=omega) [hlt2];exact Red.rfl)))
      refine q_drop (.inr rfl) (by simp; exact Red.rfl) (by simp) ⟨rfl, rfl⟩
theorem c_r2Same (H : Heap) (l : List Str) (c : Cv) (p q : Plc) (hp : CvAt H c p) (hq : CvAt H c q) (hpt : TrAt H l p) (hqt : TrAt H l q) (hn : l.length ≤ 1000) (hn1 : c.bs.length ≤ 1000) (hn2 : c.hs.length ≤ 1000) :
    ACalls Try.prog F.ref02_Same [.agg (c.av p), .agg (c.av q)] H (fun v h' => v = .bool true ∧ h' = H) := by
  have hp1 := hp.t
  have hp2 := rd_lt hp.b
  have hp3 := rd_lt hp.h
  have hq1 := hq.t
  have hq2 := rd_lt hq.b
  have hq3 := rd_lt hq.h
  have htp := hpt.n
  have htq := hqt.n
  have k0 := fun G => c_r1Same (H ++ G) l p.tid p.toff q.tid q.toff p.tex q.tex (by rw [rd_old _ hp1]; exact hpt.t) (by rw [rd_old _ hq1]; exact hqt.t) hn
  simp only [Cv.av, htp, htq] at *
  refine acalls_of ok_ref02_Same rfl fun hcl => ?_
  unfold ac_ref02_Same
  simp only [argsT, Nat.zero_add, Nat.reduceAdd]
  repeat (first|(with_reducible first|apply X1|apply X2|apply X8)|((with_reducible apply e_end);(simp;exact Red.rfl))|((with_reducible apply O1);rfl;(simp (disch:=omega);exact Red.rfl);exact Red.rfl;(focus (first|(simp;done)|omega|(simp;omega)))))
  (with_reducible apply e_call); (simp; exact Red.rfl); exact k0 _
  rintro _ _ ⟨rfl, rfl⟩
  repeat (first|(with_reducible first|apply X1|apply X2|apply X5|apply X6|apply X8)|((with_reducible apply e_end);(simp;exact Red.rfl))|((with_reducible apply O1);rfl;(simp (disch:=omega);exact Red.rfl);exact Red.rfl;(focus (first|(simp;done)|omega|(simp;omega))))|((with_reducible apply Z7);(simp (disch:=omega);exact Red.rfl))|((with_reducible apply W3);(simp (disch:=omega);exact Red.rfl)))
  refine e_loop (ι := { i : Nat // i ≤ c.bs.length }) (fun i => [(2, .ptr H.length 0), (3, .ptr (H.length + 1) 0), (5, .int .i64 i.1)]) (fun _ => H ++ [.cells [.slice p.tid p.toff l.length 9 p.tex, .slice p.bid p.boff c.bs.length 3 p.bex, .slice p.hid p.hoff c.hs.length 5 p.hex, .int .i64 c.w1, .int .i64 c.w2, .int .i64 c.y1, .int .i64 c.y2, .int .i64 c.rate, .int .i64 c.lim, .int .i64 c.base] true, .cells [.slice q.tid q.toff l.length 9 q.tex, .slice q.bid q.boff c.bs.length 3 q.bex, .slice q.hid q.hoff c.hs.length 5 q.hex, .int .i64 c.w1, .int .i64 c.w2, .int .i64 c.y1, .int .i64 c.y2, .int .i64 c.rate, .int .i64 c.lim, .int .i64 c.base] true]) (fun i => c.bs.length - i.1) ⟨0, by simp⟩ ?_ ?_
  · exact .inl rfl
  · rintro ⟨i, hi⟩
    dsimp only
    by_cases hlt : i < c.bs.length
    · have hlt2 : (i : Int) < c.bs.length := by omega
      have hx := hp.bed hlt
      have hy := hq.bed hlt
      generalize c.b i = s at hx hy
      obtain ⟨a1, a2, a3⟩ := s
      simp only [Bd.av] at hx hy
      repeat (first|(with_reducible first|apply X1|apply X2|apply X5|apply X6|apply X8|apply Y2|apply Y9)|((with_reducible first|apply e_end|apply d_end);(simp;exact Red.rfl))|((first|((with_reducible apply O1);rfl)|((with_reducible apply P1);rfl)|((with_reducible apply P2);rfl));(simp (disch:=omega) [hlt, hlt2, rd_old _ hp2, rd_old _ hq2, hx, hy];exact Red.rfl);exact Red.rfl;(focus (first|(simp;done)|omega|(simp;omega))))|((with_reducible apply Z9);(simp (disch:=omega) [hlt, hlt2, rd_old _ hp2, rd_old _ hq2, hx, hy];exact Red.rfl))|((with_reducible apply W3);(simp (disch:=omega) [hlt, hlt2, rd_old _ hp2, rd_old _ hq2, hx, hy];exact Red.rfl)))
      exact q_again ⟨i + 1, hlt⟩ (by dsimp only; omega) (.inl (by simp))
    · have hlt2 : ¬ (i : Int) < c.bs.length := by omega
      repeat (first|(with_reducible first|apply X1|apply X2|apply X4|apply X6|apply X8|apply Y1|apply Y4|apply Y6)|((with_reducible apply e_end);(simp;exact Red.rfl))|((with_reducible apply O1);rfl;(simp (disch:=omega) [hlt2];exact Red.rfl);exact Red.rfl;(focus (first|(simp;done)|omega|(simp;omega))))|((with_reducible apply W3);(simp (disch:=omega) [hlt2];exact Red.rfl)))
      refine e_loop (ι := { i : Nat // i ≤ c.hs.length }) (fun i => [(2, .ptr H.length 0), (3, .ptr (H.length + 1) 0), (6, .int .i64 i.1)]) (fun _ => H ++ [.cells [.slice p.tid p.toff l.length 9 p.tex, .slice p.bid p.boff c.bs.length 3 p.bex, .slice p.hid p.hoff c.hs.length 5 p.hex, .int .i64 c.w1, .int .i64 c.w2, .int .i64 c.y1, .int .i64 c.y2, .int .i64 c.rate, .int .i64 c.lim, .int .i64 c.base] true, .cells [.slice q.tid q.toff l.length 9 q.tex, .slice q.bid q.boff c.bs.length 3 q.bex, .slice q.hid q.hoff c.hs.length 5 q.hex, .int .i64 c.w1, .int .i64 c.w2, .int .i64 c.y1, .int .i64 c.y2, .int .i64 c.rate, .int .i64 c.lim, .int .i64 c.base] true]) (fun i => c.hs.length - i.1) ⟨0, by simp⟩ ?_ ?_
      · exact .inl rfl
      · rintro ⟨i, hi⟩
        dsimp only
        by_cases hlt : i < c.hs.length
        · have hlt2 : (i : Int) < c.hs.length := by omega
          have hx := hp.hour hlt
          have hy := hq.hour hlt
          generalize c.h i = s at hx hy
          obtain ⟨a1, a2, a3, a4, a5⟩ := s
          simp only [Hr.av] at hx hy
          repeat (first|(with_reducible first|apply X1|apply X2|apply X5|apply X6|apply X8|apply Y2|apply Y9)|((with_reducible first|apply e_end|apply d_end);(simp;exact Red.rfl))|((first|((with_reducible apply O1);rfl)|((with_reducible apply P1);rfl)|((with_reducible apply P2);rfl));(simp (disch:=omega) [hlt, hlt2, rd_old _ hp3, rd_old _ hq3, hx, hy];exact Red.rfl);exact Red.rfl;(focus (first|(simp;done)|omega|(simp;omega))))|((with_reducible apply Z9);(simp (disch:=omega) [hlt, hlt2, rd_old _ hp3, rd_old _ hq3, hx, hy];exact Red.rfl))|((with_reducible apply W3);(simp (disch:=omega) [hlt, hlt2, rd_old _ hp3, rd_old _ hq3, hx, hy];exact Red.rfl)))
          exact q_again ⟨i + 1, hlt⟩ (by dsimp only; omega) (.inl (by simp))
        · have hlt2 : ¬ (i : Int) < c.hs.length := by omega
          repeat (first|(with_reducible first|apply X1|apply X2|apply X3|apply X4|apply X8|apply Y1|apply Y4|apply Y6)|((with_reducible apply e_end);(simp;exact Red.rfl))|((with_reducible apply O1);rfl;(simp (disch:=omega) [hlt2];exact Red.rfl);exact Red.rfl;(focus (first|(simp;done)|omega|(simp;omega))))|((with_reducible apply W3);(simp (disch:=omega) [hlt2];exact Red.rfl)))
          refine q_drop (.inr rfl) (by simp; exact Red.rfl) (by simp) ⟨rfl, rfl⟩
end Go.Proofs
/- Ice: what is too thin, by the reference. -/
namespace Go.Proofs
open Go.Abs
attribute [local simp] AOp.den AOpd.ev lk cellsOf rd_new rd_new0 rd_zero rd_succ wr_new wr_new0 wr_zero wr_succ splice fillA binA scal sliceCells List.length_append argsT AV.sc scL AObj.sc resV getAll AR.get AOp.slots opdSlots opdsSlots partSlots eqAt at_new0 at_new set_new0 set_new wrap64
set_option linter.unusedSimpArgs false
set_option linter.unusedVariables false
def inner (c : Cv) (t : Tn) (P : Nat → Nat → Bool) (h i : Nat) : List (Int × Int) := thP c t P h ++ (thL c t P h i).map fun s => ((h : Int), s)
end Go.Proofs
/- Ice: what is too thin, and safe, by the reference, told. -/
namespace Go.Proofs
open Go.Abs
attribute [local simp] AOp.den AOpd.ev lk cellsOf rd_new rd_new0 rd_zero rd_succ wr_new wr_new0 wr_zero wr_succ splice fillA binA scal sliceCells List.length_append argsT AV.sc scL AObj.sc resV getAll AR.get AOp.slots opdSlots opdsSlots partSlots eqAt at_new0 at_new set_new0 set_new wrap64
set_option linter.unusedSimpArgs false
set_option linter.unusedVariables false
/-- Whether a cover, or a plan, is great. -/
theorem c_r2Great (H : Heap) (c : Cv) (p : Plc) (hp : CvAt H c p) (pl : AV) (n : Nat) (L : Nat → List Int) (hpl : PlAt H pl n L) {b : Bool} (hb : b = true ↔ (20 < p.tn ∨ 20 < c.bs.length ∨ 12 < c.hs.length ∨ 12 < n ∨ ∃ k, k < n ∧ 20 < (L k).length)) :
    ACalls Try.prog F.ref02_Great [.agg (c.av p), pl] H (fun v h' => v = .bool b ∧ h' = H) := by
  have hp1 := hp.t
  have hp2 := rd_lt hp.b
  have hp3 := rd_lt hp.h
  have k0 := fun G => c_great (H ++ G) p.tid p.toff p.tn p.tex (by simp; omega)
  have fin : ∀ x : Bool, (x = true ↔ (20 < p.tn ∨ 20 < c.bs.length ∨ 12 < c.hs.length ∨ 12 < n ∨ ∃ k, k < n ∧ 20 < (L k).length)) → AV.bool x = AV.bool b := fun x hx => by rw [AV.bool.injEq, Bool.eq_iff_iff, hx, hb]
  have yes : (20 < p.tn ∨ 20 < c.bs.length ∨ 12 < c.hs.length ∨ 12 < n ∨ ∃ k, k < n ∧ 20 < (L k).length) → AV.bool true = AV.bool b := fun h => fin true ⟨fun _ => h, fun _ => rfl⟩
  obtain ⟨pid, poff, pex, rfl, hpid, hrow⟩ := hpl.get
  simp only [Cv.av] at *
  refine acalls_of ok_ref02_Great rfl fun hcl => ?_
  unfold ac_ref02_Great
  simp only [argsT, Nat.zero_add, Nat.reduceAdd]
  repeat (first|(with_reducible first|apply X1|apply X2|apply X8)|((with_reducible apply e_end);(simp;exact Red.rfl))|((with_reducible apply O1);rfl;(simp (disch:=omega);exact Red.rfl);exact Red.rfl;(focus (first|(simp;done)|omega|(simp;omega)))))
  (with_reducible apply e_call); (simp; exact Red.rfl); exact k0 _
  rintro _ _ ⟨rfl, rfl⟩
  by_cases h1 : 20 < p.tn
  · repeat (first|(with_reducible first|apply X1|apply X2|apply X3|apply X8|apply X9)|((with_reducible apply e_end);(simp;exact Red.rfl))|((with_reducible apply O1);rfl;(simp (disch:=omega) [h1];exact Red.rfl);exact Red.rfl;(focus (first|(simp;done)|omega|(simp;omega))))|((with_reducible apply Z9);(simp (disch:=omega) [h1];exact Red.rfl))|((with_reducible apply Z2);(simp (disch:=omega) [h1];exact Red.rfl)))
    refine q_drop (.inr rfl) (by simp; exact Red.rfl) (by simp) ⟨yes (.inl h1), rfl⟩
  by_cases h2 : 20 < c.bs.length
  · have h22 : (20 : Int) < c.bs.length := by omega
    repeat (first|(with_reducible first|apply X1|apply X2|apply X3|apply X8|apply X9)|((with_reducible apply e_end);(simp;exact Red.rfl))|((with_reducible apply O1);rfl;(simp (disch:=omega) [h1, h22];exact Red.rfl);exact Red.rfl;(focus (first|(simp;done)|omega|(simp;omega))))|((with_reducible first|apply Z7|apply Z9);(simp (disch:=omega) [h1, h22];exact Red.rfl))|((with_reducible apply Z2);(simp (disch:=omega) [h1, h22];exact Red.rfl)))
    refine q_drop (.inr rfl) (by simp; exact Red.rfl) (by simp) ⟨yes (.inr (.inl h2)), rfl⟩
  have h22 : ¬ (20 : Int) < c.bs.length := by omega
  by_cases h3 : 12 < c.hs.length
  · have h32 : (12 : Int) < c.hs.length := by omega
    repeat (first|(with_reducible first|apply X1|apply X2|apply X3|apply X8|apply X9)|((with_reducible apply e_end);(simp;exact Red.rfl))|((with_reducible apply O1);rfl;(simp (disch:=omega) [h1, h22, h32];exact Red.rfl);exact Red.rfl;(focus (first|(simp;done)|omega|(simp;omega))))|((with_reducible first|apply Z7|apply Z9);(simp (disch:=omega) [h1, h22, h32];exact Red.rfl))|((with_reducible apply Z2);(simp (disch:=omega) [h1, h22, h32];exact Red.rfl)))
    refine q_drop (.inr rfl) (by simp; exact Red.rfl) (by simp) ⟨yes (.inr (.inr (.inl h3))), rfl⟩
  have h32 : ¬ (12 : Int) < c.hs.length := by omega
  by_cases h4 : 12 < n
  · have h42 : (12 : Int) < n := by omega
    repeat (first|(with_reducible first|apply X1|apply X2|apply X3|apply X8|apply X9)|((with_reducible apply e_end);(simp;exact Red.rfl))|((with_reducible apply O1);rfl;(simp (disch:=omega) [h1, h22, h32, h42];exact Red.rfl);exact Red.rfl;(focus (first|(simp;done)|omega|(simp;omega))))|((with_reducible first|apply Z7|apply Z9);(simp (disch:=omega) [h1, h22, h32, h42];exact Red.rfl)))
    refine q_drop (.inr rfl) (by simp; exact Red.rfl) (by simp) ⟨yes (.inr (.inr (.inr (.inl h4)))), rfl⟩
  have h42 : ¬ (12 : Int) < n := by omega
  repeat (first|(with_reducible first|apply X1|apply X2|apply X5|apply X6|apply X8)|((with_reducible apply e_end);(simp;exact Red.rfl))|((with_reducible apply O1);rfl;(simp (disch:=omega) [h1, h22, h32, h42];exact Red.rfl);exact Red.rfl;(focus (first|(simp;done)|omega|(simp;omega))))|((with_reducible apply Z7);(simp (disch:=omega) [h1, h22, h32, h42];exact Red.rfl))|((with_reducible apply W3);(simp (disch:=omega) [h1, h22, h32, h42];exact Red.rfl)))
  refine e_loop (ι := { i : Nat // i ≤ n ∧ ∀ k, k < i → (L k).length ≤ 20 }) (fun i => [(1, .slice pid poff n 1 pex), (5, .int .i64 i.1)]) (fun _ => H ++ [.cells (c.av p) true]) (fun i => n - i.1) ⟨0, by simp⟩ ?_ ?_
  · simp only [Cv.av]; exact .inl rfl
  · rintro ⟨i, hi, hall⟩
    simp only [Cv.av]
    by_cases hlt : i < n
    · have hlt2 : (i : Int) < n := by omega
      obtain ⟨x, hx, hix⟩ := hrow i hlt
      have hxs' : ∀ k, x.sc (H.length + k) = true := fun k => RAt.sc hix (by omega)
      repeat (first|(with_reducible first|apply X1|apply X2|apply X5|apply X6|apply X8)|((with_reducible apply e_end);(simp;exact Red.rfl))|((with_reducible apply O1);rfl;(simp (disch:=omega) [hlt, hlt2, rd_old _ hpid, hx];exact Red.rfl);exact Red.rfl;(focus (first|(simp;done)|omega|(simp;omega))))|((with_reducible apply Z9);(simp (disch:=omega) [hlt, hlt2, rd_old _ hpid, hx];exact Red.rfl)))
      (with_reducible apply e_op); rfl; exact RAt.len hix _ (by simp); exact Red.rfl; trivial
      by_cases h5 : 20 < (L i).length
      · have h52 : (20 : Int) < (L i).length := by omega
        repeat (first|(with_reducible first|apply X1|apply X2|apply X3|apply X8|apply X9|apply Y3|apply Y5)|((with_reducible apply e_end);(simp;exact Red.rfl))|((with_reducible apply O1);rfl;(simp (disch:=omega) [h52];exact Red.rfl);exact Red.rfl;(focus (first|(simp;done)|omega|(simp;omega))))|((with_reducible apply Z9);(simp (disch:=omega) [h52];exact Red.rfl)))
        refine q_drop (.inr rfl) (by simp; exact Red.rfl) (by simp) ⟨yes (.inr (.inr (.inr (.inr ⟨i, hlt, h5⟩)))), rfl⟩
      · have h52 : ¬ (20 : Int) < (L i).length := by omega
        repeat (first|(with_reducible first|apply X2|apply X5|apply X8|apply Y2)|((with_reducible apply e_end);(simp;exact Red.rfl))|((with_reducible apply O1);rfl;(simp (disch:=omega) [h52];exact Red.rfl);exact Red.rfl;(focus (first|(simp;done)|omega|(simp;omega))))|((with_reducible apply W3);(simp (disch:=omega) [h52];exact Red.rfl)))
        refine q_again ⟨i + 1, hlt, fun k hk => ?_⟩ (by dsimp only; omega) (.inl (by simp))
        rcases Nat.lt_or_ge k i with h | h
        · exact hall k h
        · obtain rfl : k = i := by omega
          omega
    · have hlt2 : ¬ (i : Int) < n := by omega
      repeat (first|(with_reducible first|apply X1|apply X2|apply X3|apply X4|apply X8|apply Y1|apply Y4|apply Y6)|((with_reducible apply e_end);(simp;exact Red.rfl))|((with_reducible apply O1);rfl;(simp (disch:=omega) [hlt2];exact Red.rfl);exact Red.rfl;(focus (first|(simp;done)|omega|(simp;omega))))|((with_reducible apply W3);(simp (disch:=omega) [hlt2];exact Red.rfl)))
      refine q_drop (.inr rfl) (by simp; exact Red.rfl) (by simp) ⟨fin false ⟨(fun h => by cases h), fun h => by
        rcases h with h | h | h | h | ⟨k, h, h5⟩
        · exact absurd h h1
        · exact absurd h h2
        · exact absurd h h3
        · exact absurd h h4
        · have := hall k (by omega); omega⟩, rfl⟩
end Go.Proofs
/- Ice: water. -/
namespace Go.Proofs
open Go.Abs
attribute [local simp] AOp.den AOpd.ev lk cellsOf rd_new rd_new0 rd_zero rd_succ wr_new wr_new0 wr_zero wr_succ splice fillA binA scal sliceCells List.length_append argsT AV.sc scL AObj.sc resV getAll AR.get AOp.slots opdSlots opdsSlots partSlots eqAt at_new0 at_new set_new0 set_new wrap64
set_option linter.unusedSimpArgs false
set_option linter.unusedVariables false
def waL (r : Int) (g : Nat → Int) (l : List Int) : Nat → Int
  | 0 => 0
  | k + 1 => waL r g l k + r * g (l.getD k 0).toNat
def waP (r : Int) (g : Nat → Int) (L : Nat → List Int) : Nat → Int
  | 0 => 0
  | h + 1 => waP r g L h + waL r g (L h) (L h).length
def waterG (l : List Str) (c : Cv) (n : Nat) (L : Nat → List Int) (lo hi e : Int) : Prop :=
  (plE l c n L e ∧ e ≠ 0 ∧ lo = 0 ∧ hi = 0) ∨ (validL l ∧ c.ok l.length ∧ (n = c.hs.length ∧ okPl c L) ∧ e = 0 ∧ lo = waP c.rate (fun s => (strAt l s).lLo) L n ∧ hi = waP c.rate (fun s => (strAt l s).lHi) L n)
end Go.Proofs
/- Ice: water, by the reference. -/
namespace Go.Proofs
open Go.Abs
attribute [local simp] AOp.den AOpd.ev lk cellsOf rd_new rd_new0 rd_zero rd_succ wr_new wr_new0 wr_zero wr_succ splice fillA binA scal sliceCells List.length_append argsT AV.sc scL AObj.sc resV getAll AR.get AOp.slots opdSlots opdsSlots partSlots eqAt at_new0 at_new set_new0 set_new wrap64
set_option linter.unusedSimpArgs false
set_option linter.unusedVariables false
end Go.Proofs
/- Ice: what is too thin, safe, and water: the law's contract. -/
namespace Go.Proofs
open Go.Abs
attribute [local simp] AOp.den AOpd.ev lk cellsOf rd_new rd_new0 rd_zero rd_succ wr_new wr_new0 wr_zero wr_succ splice fillA binA scal sliceCells List.length_append argsT AV.sc scL AObj.sc resV getAll AR.get AOp.slots opdSlots opdsSlots partSlots eqAt at_new0 at_new set_new0 set_new wrap64
set_option linter.unusedSimpArgs false
set_option linter.unusedVariables false
theorem chkE_uniq {l : List Str} {c : Cv} {e f : Int} (h : chkE l c e) (h' : chkE l c f) : e = f := by
  rcases h with ⟨a, b, rfl⟩ | ⟨a, rfl⟩ | ⟨a, b, rfl⟩ <;> rcases h' with ⟨a', b', rfl⟩ | ⟨a', rfl⟩ | ⟨a', b', rfl⟩ <;> first | rfl | contradiction
theorem plE_uniq {l : List Str} {c : Cv} {n : Nat} {L : Nat → List Int} {e f : Int} (h : plE l c n L e) (h' : plE l c n L f) : e = f := by
  rcases h with ⟨a, b, d, rfl⟩ | ⟨a, b, d⟩ | ⟨a, b, d, rfl⟩ <;> rcases h' with ⟨a', b', d', rfl⟩ | ⟨a', b', d'⟩ | ⟨a', b', d', rfl⟩
  · rfl
  · exact absurd ⟨a, b⟩ a'
  · exact absurd d d'
  · exact absurd ⟨a', b'⟩ a
  · exact chkE_uniq b b'
  · exact absurd ⟨a', b'⟩ a
  · exact absurd d' d
  · exact absurd ⟨a, b⟩ a'
  · rfl
theorem plE_zero {l : List Str} {c : Cv} {n : Nat} {L : Nat → List Int} {e : Int} (h : plE l c n L e) (h1 : validL l) (h2 : c.ok l.length) (h3 : n = c.hs.length ∧ okPl c L) : e = 0 := by
  rcases h with ⟨_, _, _, rfl⟩ | ⟨a, _⟩ | ⟨_, _, a, _⟩
  · rfl
  · exact absurd ⟨h1, h2⟩ a
  · exact absurd h3 a
def thinE (l : List Str) (c : Cv) (n : Nat) (L : Nat → List Int) (T : List (Int × Int)) (e : Int) : Prop :=
  (plE l c n L e ∧ e ≠ 0 ∧ T = []) ∨ (validL l ∧ c.ok l.length ∧ (n = c.hs.length ∧ okPl c L) ∧ e = 0 ∧ T = thP c (endT true c) (inP L) c.hs.length)
def safeE (l : List Str) (c : Cv) (n : Nat) (L : Nat → List Int) (k e : Int) : Prop :=
  (plE l c n L e ∧ e ≠ 0 ∧ k = 0) ∨ (validL l ∧ c.ok l.length ∧ (n = c.hs.length ∧ okPl c L) ∧ e = 0 ∧ k = safeF c L)
def thinR (H : Heap) (l : List Str) (c : Cv) (n : Nat) (L : Nat → List Int) (v : AV) (h' : Heap) : Prop := ∃ (a : AV) (T : List (Int × Int)) (G : Heap) (e : Int), v = .tuple [a, .int .i64 e] ∧ h' = H ++ G ∧ RAt h' 2 a (pv T) T.length ∧ thinE l c n L T e
end Go.Proofs
/- Ice: as many sleds as it bears, by the reference. -/
namespace Go.Proofs
open Go.Abs
attribute [local simp] AOp.den AOpd.ev lk cellsOf rd_new rd_new0 rd_zero rd_succ wr_new wr_new0 wr_zero wr_succ splice fillA binA scal sliceCells List.length_append argsT AV.sc scL AObj.sc resV getAll AR.get AOp.slots opdSlots opdsSlots partSlots eqAt at_new0 at_new set_new0 set_new wrap64
set_option linter.unusedSimpArgs false
set_option linter.unusedVariables false
theorem goodR_iff {c : Cv} {L : Nat → List Int} {k : Nat} {r : Int} : goodR c L k r ↔ ∀ s, s < c.bs.length → tooF (c.withR k r) (endT true (c.withR k r)) (inP L) k s = false := by
  unfold goodR
  rw [List.eq_nil_iff_forall_not_mem]
  constructor
  · intro h s hs
    cases e : tooF (c.withR k r) (endT true (c.withR k r)) (inP L) k s
    · rfl
    · exact absurd (thL_mem.2 ⟨s, hs, e, rfl⟩) (h _)
  · rintro h x hx
    obtain ⟨s, h1, h2, _⟩ := thL_mem.1 hx
    rw [h s h1] at h2; cases h2
set_option maxHeartbeats 2000000 in
theorem c_r2MostG (H : Heap) (l : List Str) (c : Cv) (p : Plc) (hp : CvAt H c p) (ht : TrAt H l p) (hn : (l.length : Int) < 1000000) (hn1 : (c.bs.length : Int) < 1000000) (hn2 : (c.hs.length : Int) < 1000000)
    (pl : AV) (n : Nat) (L : Nat → List Int) (hpl : PlAt H pl n L) (hL : ∀ k, k < n → ((L k).length : Int) < 1000000) (hn3 : (n : Int) < 1000000) (h : Int) :
    ACalls Try.prog F.ref02_Most [.agg (c.av p), pl, .int .i64 h] H (fun v h' => h' = H ∧ ∃ m e : Int, v = .tuple [.int .i64 m, .int .i64 e] ∧ mostG l c n L h m e) := by
  have k0 := fun G => c_r2Check (H ++ G) l c p (hp.app G) (ht.app G) hn hn1 hn2
  have hp1 := hp.t
  have hp2 := rd_lt hp.b
  have hp3 := rd_lt hp.h
  have hpa := fun G => hp.app G
  have hpla := fun G => hpl.app G
  have hrh := hp.h
  obtain ⟨pid, poff, pex, rfl, hpid, hrow⟩ := hpl.get
  simp only [Cv.av] at *
  refine acalls_of ok_ref02_Most rfl fun hcl => ?_
  unfold ac_ref02_Most
  simp only [argsT, Nat.zero_add, Nat.reduceAdd]
  repeat (first|(with_reducible first|apply X1|apply X2|apply X8)|((with_reducible apply e_end);(simp;exact Red.rfl))|((with_reducible apply O1);rfl;(simp (disch:=omega);exact Red.rfl);exact Red.rfl;(focus (first|(simp;done)|omega|(simp;omega)))))
  (with_reducible apply e_call); (simp; exact Red.rfl); exact k0 _
  rintro _ _ ⟨rfl, e, rfl, hv | hv⟩
  rotate_left
  · have he : e ≠ 0 := by rcases hv with h | h <;> omega
    have hno : ¬ (validL l ∧ c.ok l.length) := by rintro ⟨h1, h2⟩; exact hv.elim (fun h => h.1 h1) (fun h => h.2.1 h2)
    repeat (first|(with_reducible first|apply X1|apply X2|apply X3|apply X8|apply X9)|((with_reducible apply e_end);(simp;exact Red.rfl))|((with_reducible apply O1);rfl;(simp (disch:=omega) [he];exact Red.rfl);exact Red.rfl;(focus (first|(simp;done)|omega|(simp;omega))))|((with_reducible apply Z9);(simp (disch:=omega) [he];exact Red.rfl)))
    refine q_drop (.inr rfl) (by simp; exact Red.rfl) (by simp) ⟨rfl, 0, e, rfl, .inl ⟨.inr (.inl ⟨hno, .inr hv, he⟩), he, rfl⟩⟩
  obtain ⟨hv, hc, rfl⟩ := hv
  have h12 := hv.1
  have hlen := hc.len
  have h8 := hc.hours
  obtain ⟨b0, h0⟩ := bof (n = c.hs.length ∧ okPl c L)
  have cV := fun G => c_r2Valid (H ++ G) c p _ (hpa G) hc (by omega) _ n L (hpla G) hL hn3 h0
  simp only [Cv.av] at cV
  repeat (first|(with_reducible first|apply X1|apply X2|apply X5|apply X8)|((with_reducible apply e_end);(simp;exact Red.rfl))|((with_reducible apply O1);rfl;(simp (disch:=omega);exact Red.rfl);exact Red.rfl;(focus (first|(simp;done)|omega|(simp;omega))))|((with_reducible apply W3);(simp (disch:=omega);exact Red.rfl)))
  (with_reducible apply e_call); (simp; exact Red.rfl); exact cV _
  rintro _ _ ⟨rfl, rfl⟩
  cases b0 with
  | false =>
    repeat (first|(with_reducible first|apply X1|apply X2|apply X3|apply X8|apply X9)|((with_reducible apply e_end);(simp;exact Red.rfl))|((with_reducible apply O1);rfl;(simp (disch:=omega);exact Red.rfl);exact Red.rfl;(focus (first|(simp;done)|omega|(simp;omega))))|((with_reducible apply Z9);(simp (disch:=omega);exact Red.rfl)))
    refine q_drop (.inr rfl) (by simp; exact Red.rfl) (by simp) ⟨rfl, 0, 21, rfl, .inl ⟨.inr (.inr ⟨hv, hc, (fun h => by have := h0.2 h; cases this), rfl⟩), by decide, rfl⟩⟩
  | true =>
  obtain ⟨rfl, hok⟩ := h0.1 rfl
  obtain ⟨b1, h1⟩ := bof (0 ≤ h ∧ h ≤ (c.hs.length : Int) - 1)
  repeat (first|(with_reducible first|apply X1|apply X2|apply X5|apply X8)|((with_reducible apply e_end);(simp;exact Red.rfl))|((with_reducible apply O1);rfl;(simp (disch:=omega);exact Red.rfl);exact Red.rfl;(focus (first|(simp;done)|omega|(simp;omega))))|((with_reducible apply W3);(simp (disch:=omega);exact Red.rfl)))
  (with_reducible apply e_call); (simp; exact Red.rfl); exact c_r2within _ _ _ _ h1
  rintro _ _ ⟨rfl, rfl⟩
  cases b1 with
  | false =>
    repeat (first|(with_reducible first|apply X1|apply X2|apply X3|apply X8|apply X9)|((with_reducible apply e_end);(simp;exact Red.rfl))|((with_reducible apply O1);rfl;(simp (disch:=omega);exact Red.rfl);exact Red.rfl;(focus (first|(simp;done)|omega|(simp;omega))))|((with_reducible apply Z9);(simp (disch:=omega);exact Red.rfl)))
    refine q_drop (.inr rfl) (by simp; exact Red.rfl) (by simp) ⟨rfl, 0, 2, rfl, .inr (.inl ⟨hv, hc, ⟨rfl, hok⟩, (fun h3 => by have := h1.2 ⟨h3.1, by omega⟩; cases this), rfl, rfl⟩)⟩
  | true =>
  have h1 := h1.1 rfl
  obtain ⟨k, rfl⟩ : ∃ n : Nat, h = n := ⟨h.toNat, by omega⟩
  have hk : k < c.hs.length := by omega
  have plh := (plain_hr c).plain c.hs.length
  rw [← flat_hr] at plh
  have hle : c.hs.length * 40 ≤ 140737488355328 := by omega
  repeat (first|(with_reducible first|apply X1|apply X2|apply X5|apply X6|apply X8)|((with_reducible apply e_end);(simp;exact Red.rfl))|((first|((with_reducible apply O1);rfl)|((with_reducible apply O2);rfl));(simp (disch:=omega) [rd_old _ hp3, hrh, plh.scal, hle];exact Red.rfl);exact Red.rfl;(focus (first|(simp;done)|omega|(simp;omega))))|((with_reducible apply W3);(simp (disch:=omega) [rd_old _ hp3, hrh, plh.scal, hle];exact Red.rfl)))
  have e0 : c.hs.flatMap Hr.av = avR (hrR (c.withR k (c.h k).runs)) c.hs.length := by rw [withR_own hk, flat_hr]
  rw [e0]
  refine e_loop (ι := { x : Nat × Int // x.1 ≤ 61 ∧ ((x.2 = -1 ∧ ∀ r : Int, 0 ≤ r → r < x.1 → ¬ goodR c L k r) ∨ ((0 ≤ x.2 ∧ x.2 < x.1) ∧ goodR c L k x.2 ∧ ∀ r : Int, x.2 < r → r < x.1 → ¬ goodR c L k r)) })
    (fun x => [(1, .slice pid poff c.hs.length 1 pex), (2, .int .i64 k), (3, .ptr H.length 0), (9, .ptr (H.length + 1) 0), (10, .int .i64 x.1.2), (11, .int .i64 x.1.1)])
    (fun x => H ++ [AObj.cells [.slice p.tid p.toff p.tn 9 p.tex, .slice p.bid p.boff c.bs.length 3 p.bex, .slice p.hid p.hoff c.hs.length 5 p.hex, .int .i64 c.w1, .int .i64 c.w2, .int .i64 c.y1, .int .i64 c.y2, .int .i64 c.rate, .int .i64 c.lim, .int .i64 c.base] true, AObj.cells [.slice p.tid p.toff p.tn 9 p.tex, .slice p.bid p.boff c.bs.length 3 p.bex, .slice (H.length + 3) 0 c.hs.length 5 false, .int .i64 c.w1, .int .i64 c.w2, .int .i64 c.y1, .int .i64 c.y2, .int .i64 c.rate, .int .i64 c.lim, .int .i64 c.base] true, .dead, .cells (avR (hrR (c.withR k (if x.1.1 = 0 then (c.h k).runs else (x.1.1 : Int) - 1))) c.hs.length) true]) (fun x => 61 - x.1.1) ⟨(0, -1), by simp, .inl ⟨rfl, fun r h0 h1 => by simp at h1; omega⟩⟩ ?_ ?_
  · exact .inl rfl
  · rintro ⟨⟨m, best⟩, hm, hbest⟩
    dsimp only at hm hbest ⊢
    by_cases hlt : m < 61
    · have hlt2 : (m : Int) ≤ 60 := by omega
      have hput := put_hr (c := c) (k := k) (r := if m = 0 then (c.h k).runs else (m : Int) - 1) (r' := (m : Int)) hk
      have hll := (plain_hr (c.withR k (if m = 0 then (c.h k).runs else (m : Int) - 1))).length c.hs.length
      have le1 : k * 5 + 2 + 1 ≤ c.hs.length * 5 := by omega
      generalize avR (hrR (c.withR k (if m = 0 then (c.h k).runs else (m : Int) - 1))) c.hs.length = old at *
      repeat (first|(with_reducible first|apply X1|apply X2|apply X5|apply X6|apply X8)|((with_reducible apply e_end);(simp;exact Red.rfl))|((with_reducible apply O1);rfl;(simp (disch:=omega) [hlt2, hk];exact Red.rfl);exact Red.rfl;(focus (first|(simp;done)|omega|(simp;omega))))|((with_reducible apply Z9);(simp (disch:=omega) [hlt2, hk];exact Red.rfl)))
      repeat (first|(with_reducible first|apply X1|apply X2|apply X6|apply X8)|((with_reducible apply e_end);(simp;exact Red.rfl))|((first|((with_reducible apply O1);rfl)|((with_reducible apply O2);rfl));(simp (disch:=omega) [Nat.add_assoc, hll, le1, -splice, hput];exact Red.rfl);exact Red.rfl;(focus (first|(simp;done)|omega|(simp;omega)))))
      have hX : CvAt (H ++ [AObj.cells [.slice p.tid p.toff p.tn 9 p.tex, .slice p.bid p.boff c.bs.length 3 p.bex, .slice p.hid p.hoff c.hs.length 5 p.hex, .int .i64 c.w1, .int .i64 c.w2, .int .i64 c.y1, .int .i64 c.y2, .int .i64 c.rate, .int .i64 c.lim, .int .i64 c.base] true, AObj.cells [.slice p.tid p.toff p.tn 9 p.tex, .slice p.bid p.boff c.bs.length 3 p.bex, .slice (H.length + 3) 0 c.hs.length 5 false, .int .i64 c.w1, .int .i64 c.w2, .int .i64 c.y1, .int .i64 c.y2, .int .i64 c.rate, .int .i64 c.lim, .int .i64 c.base] true, .dead, .cells (avR (hrR (c.withR k (m : Int))) c.hs.length) true]) (c.withR k (m : Int)) ⟨p.tid, p.toff, p.tex, p.tn, p.bid, p.boff, p.bex, H.length + 3, 0, false⟩ := by
        have h1 := hpa [AObj.cells [.slice p.tid p.toff p.tn 9 p.tex, .slice p.bid p.boff c.bs.length 3 p.bex, .slice p.hid p.hoff c.hs.length 5 p.hex, .int .i64 c.w1, .int .i64 c.w2, .int .i64 c.y1, .int .i64 c.y2, .int .i64 c.rate, .int .i64 c.lim, .int .i64 c.base] true, AObj.cells [.slice p.tid p.toff p.tn 9 p.tex, .slice p.bid p.boff c.bs.length 3 p.bex, .slice (H.length + 3) 0 c.hs.length 5 false, .int .i64 c.w1, .int .i64 c.w2, .int .i64 c.y1, .int .i64 c.y2, .int .i64 c.rate, .int .i64 c.lim, .int .i64 c.base] true, .dead, .cells (avR (hrR (c.withR k (m : Int))) c.hs.length) true]
        refine ⟨h1.t, h1.b, ?_⟩
        rw [flat_hr, withR_len]
        exact rd_full (b := true) (by simp [at_new]) ((plain_hr _).length _)
      have hcR := withR_ok (k := k) hc (show (0 : Int) ≤ m by omega) hlt2
      have hplX := hpla [AObj.cells [.slice p.tid p.toff p.tn 9 p.tex, .slice p.bid p.boff c.bs.length 3 p.bex, .slice p.hid p.hoff c.hs.length 5 p.hex, .int .i64 c.w1, .int .i64 c.w2, .int .i64 c.y1, .int .i64 c.y2, .int .i64 c.rate, .int .i64 c.lim, .int .i64 c.base] true, AObj.cells [.slice p.tid p.toff p.tn 9 p.tex, .slice p.bid p.boff c.bs.length 3 p.bex, .slice (H.length + 3) 0 c.hs.length 5 false, .int .i64 c.w1, .int .i64 c.w2, .int .i64 c.y1, .int .i64 c.y2, .int .i64 c.rate, .int .i64 c.lim, .int .i64 c.base] true, .dead, .cells (avR (hrR (c.withR k (m : Int))) c.hs.length) true]
      have kth := fun s hs => c_r2thick _ (c.withR k (m : Int)) _ _ hX hcR (by omega) (.slice pid poff c.hs.length 1 pex) L (by rw [withR_len]; exact hplX) (by rw [withR_len]; exact hL) s k hs (by rw [withR_len]; omega)
      have klo := fun s hs => c_r2loss _ (c.withR k (m : Int)) _ _ hX hcR s k hs (by rw [withR_len]; exact hk)
      have kas := c_r2asks _ (c.withR k (m : Int)) _ hX k (by rw [withR_len]; exact hk)
      have bd := fun s hs => bef_bd hcR (endT_ok hcR true) (inP L) (s := s) hs (h := k) (by rw [withR_len]; omega)
      have ld := fun s hs => (loss_bd hcR (endT_ok hcR true) (s := s) (h := k) hs (by rw [withR_len]; omega)).2.2
      have hgi := goodR_iff (c := c) (L := L) (k := k) (r := (m : Int))
      simp only [tooF, decide_eq_false_iff_not] at hgi
      have hbl : (c.withR k (m : Int)).bs.length = c.bs.length := rfl
      simp only [Cv.av, withR_len, hbl] at kth klo kas bd ld
      refine e_loop (ι := { y : Nat × Bool // y.1 ≤ c.bs.length ∧ (y.2 = true ↔ ∀ s, s < y.1 → ¬ befF (c.withR k (m : Int)) (endT true (c.withR k (m : Int))) (inP L) s k - lossF (c.withR k (m : Int)) (endT true (c.withR k (m : Int))) s k < asks (c.withR k (m : Int)) k) })
        (fun y => [(1, .slice pid poff c.hs.length 1 pex), (2, .int .i64 k), (3, .ptr H.length 0), (9, .ptr (H.length + 1) 0), (10, .int .i64 best), (11, .int .i64 m), (12, .bool y.1.2), (13, .int .i64 y.1.1)])
        (fun _ => H ++ [AObj.cells [.slice p.tid p.toff p.tn 9 p.tex, .slice p.bid p.boff c.bs.length 3 p.bex, .slice p.hid p.hoff c.hs.length 5 p.hex, .int .i64 c.w1, .int .i64 c.w2, .int .i64 c.y1, .int .i64 c.y2, .int .i64 c.rate, .int .i64 c.lim, .int .i64 c.base] true, AObj.cells [.slice p.tid p.toff p.tn 9 p.tex, .slice p.bid p.boff c.bs.length 3 p.bex, .slice (H.length + 3) 0 c.hs.length 5 false, .int .i64 c.w1, .int .i64 c.w2, .int .i64 c.y1, .int .i64 c.y2, .int .i64 c.rate, .int .i64 c.lim, .int .i64 c.base] true, .dead, .cells (avR (hrR (c.withR k (m : Int))) c.hs.length) true]) (fun y => c.bs.length - y.1.1) ⟨(0, true), by simp, by simp⟩ ?_ ?_
      · exact .inl rfl
      · rintro ⟨⟨i, rt⟩, hi, hrt⟩
        dsimp only at hi hrt ⊢
        by_cases hil : i < c.bs.length
        · have hil2 : (i : Int) < c.bs.length := by omega
          have b1 := bd i hil
          have l1 := ld i hil
          cases rt with
          | false =>
            repeat (first|(with_reducible first|apply X1|apply X2|apply X5|apply X6|apply X8|apply Y2|apply Y9)|((with_reducible first|apply e_end|apply d_end);(simp;exact Red.rfl))|((first|((with_reducible apply O1);rfl)|((with_reducible apply P1);rfl));(simp (disch:=omega) [hil2];exact Red.rfl);exact Red.rfl;(focus (first|(simp;done)|omega|(simp;omega))))|((with_reducible apply Z9);(simp (disch:=omega) [hil2];exact Red.rfl))|((with_reducible apply Z5);(simp (disch:=omega) [hil2];exact Red.rfl)))
            refine q_again ⟨(i + 1, false), by dsimp only; omega, ?_⟩ (by dsimp only; omega) (.inl (by simp))
            simp only [Bool.false_eq_true, false_iff] at hrt ⊢
            exact fun h => hrt fun s hs => h s (by omega)
          | true =>
            have hall := hrt.1 rfl
            repeat (first|(with_reducible first|apply X1|apply X2|apply X5|apply X6|apply X8|apply Y9)|((with_reducible apply e_end);(simp;exact Red.rfl))|((first|((with_reducible apply O1);rfl)|((with_reducible apply P1);rfl)|((with_reducible apply P2);rfl));(simp (disch:=omega) [hil2];exact Red.rfl);exact Red.rfl;(focus (first|(simp;done)|omega|(simp;omega))))|((with_reducible first|apply Z8|apply Z9);(simp (disch:=omega) [hil2];exact Red.rfl)))
            (with_reducible apply d_call); (simp; exact Red.rfl); exact kth i hil; (focus (first | (simp; done) | (simp; omega)))
            repeat (first|((with_reducible apply P1);rfl;(simp (disch:=omega);exact Red.rfl);exact Red.rfl;(focus (first|(simp;done)|omega|(simp;omega))))|((with_reducible apply Z8);(simp (disch:=omega);exact Red.rfl))|((with_reducible apply P6);rfl;(simp (disch:=omega);exact Red.rfl);exact Red.rfl;(focus (first|(simp [pr];done)|(simp [pr];omega)))))
            (with_reducible apply d_call); (simp; exact Red.rfl); exact klo i hil; (focus (first | (simp; done) | (simp; omega)))
            repeat (first|((with_reducible apply P1);rfl;(simp (disch:=omega);exact Red.rfl);exact Red.rfl;(focus (first|(simp;done)|omega|(simp;omega))))|((with_reducible apply Z8);(simp (disch:=omega);exact Red.rfl))|((with_reducible apply P6);rfl;(simp (disch:=omega);exact Red.rfl);exact Red.rfl;(focus (first|(simp [pr];done)|(simp [pr];omega)))))
            (with_reducible apply d_call); (simp; exact Red.rfl); exact kas; (focus (first | (simp; done) | (simp; omega)))
            by_cases hk2 : asks (c.withR k (m : Int)) k ≤ befF (c.withR k (m : Int)) (endT true (c.withR k (m : Int))) (inP L) i k - lossF (c.withR k (m : Int)) (endT true (c.withR k (m : Int))) i k
            · repeat (first|(with_reducible first|apply X2|apply X8|apply Y2)|((with_reducible first|apply e_end|apply d_end);(simp;exact Red.rfl))|((first|((with_reducible apply O1);rfl)|((with_reducible apply P1);rfl));(simp (disch:=omega) [hk2];exact Red.rfl);exact Red.rfl;(focus (first|(simp;done)|omega|(simp;omega))))|((with_reducible apply Z8);(simp (disch:=omega) [hk2];exact Red.rfl)))
              refine q_again ⟨(i + 1, true), by dsimp only; omega, ?_⟩ (by dsimp only; omega) (.inl (by simp))
              simp only [true_iff]
              intro s hs
              rcases Nat.lt_or_ge s i with h | h
              · exact hall s h
              · obtain rfl : s = i := by omega
                omega
            · repeat (first|(with_reducible first|apply X2|apply X8|apply Y2)|((with_reducible first|apply e_end|apply d_end);(simp;exact Red.rfl))|((first|((with_reducible apply O1);rfl)|((with_reducible apply P1);rfl));(simp (disch:=omega) [hk2];exact Red.rfl);exact Red.rfl;(focus (first|(simp;done)|omega|(simp;omega))))|((with_reducible apply Z8);(simp (disch:=omega) [hk2];exact Red.rfl)))
              refine q_again ⟨(i + 1, false), by dsimp only; omega, ?_⟩ (by dsimp only; omega) (.inl (by simp))
              simp only [Bool.false_eq_true, false_iff]
              exact fun h => h i (by omega) (by omega)
        · have hil2 : ¬ (i : Int) < c.bs.length := by omega
          obtain rfl : i = c.bs.length := by omega
          have hg2 : rt = true ↔ goodR c L k (m : Int) := hrt.trans hgi.symm
          cases rt with
          | true =>
            repeat (first|(with_reducible first|apply X1|apply X2|apply X4|apply X8|apply Y1|apply Y2|apply Y4|apply Y6)|((with_reducible apply e_end);(simp;exact Red.rfl))|((with_reducible apply O1);rfl;(simp (disch:=omega) [hil2];exact Red.rfl);exact Red.rfl;(focus (first|(simp;done)|omega|(simp;omega))))|((with_reducible apply Z9);(simp (disch:=omega) [hil2];exact Red.rfl))|((with_reducible apply W3);(simp (disch:=omega) [hil2];exact Red.rfl)))
            refine q_again ⟨(m + 1, (m : Int)), by dsimp only; omega, .inr ⟨⟨by dsimp only; omega, by dsimp only; omega⟩, hg2.1 rfl, fun r h2 h3 => by dsimp only at h2 h3; omega⟩⟩ (by dsimp only; omega) (.inl (by simp))
          | false =>
            have hng : ¬ goodR c L k (m : Int) := fun h => by have := hg2.2 h; cases this
            repeat (first|(with_reducible first|apply X1|apply X2|apply X4|apply X5|apply X8|apply Y1|apply Y2|apply Y4|apply Y6)|((with_reducible apply e_end);(simp;exact Red.rfl))|((with_reducible apply O1);rfl;(simp (disch:=omega) [hil2];exact Red.rfl);exact Red.rfl;(focus (first|(simp;done)|omega|(simp;omega))))|((with_reducible apply W3);(simp (disch:=omega) [hil2];exact Red.rfl)))
            refine q_again ⟨(m + 1, best), by dsimp only; omega, ?_⟩ (by dsimp only; omega) (.inl (by simp))
            dsimp only
            rcases hbest with ⟨h2, h3⟩ | ⟨h2, h3, h4⟩
            · refine .inl ⟨h2, fun r h5 h6 => ?_⟩
              by_cases e : r = m
              · rw [e]; exact hng
              · exact h3 r h5 (by omega)
            · refine .inr ⟨⟨h2.1, by omega⟩, h3, fun r h5 h6 => ?_⟩
              by_cases e : r = m
              · rw [e]; exact hng
              · exact h4 r h5 (by omega)
    · obtain rfl : m = 61 := by omega
      rcases hbest with ⟨rfl, h3⟩ | ⟨h2, h3, h4⟩
      · repeat (first|(with_reducible first|apply X1|apply X2|apply X3|apply X4|apply X8|apply X9|apply Y1|apply Y4|apply Y6)|((with_reducible apply e_end);(simp;exact Red.rfl))|((with_reducible apply O1);rfl;(simp (disch:=omega);exact Red.rfl);exact Red.rfl;(focus (first|(simp;done)|omega|(simp;omega))))|((with_reducible apply Z9);(simp (disch:=omega);exact Red.rfl))|((with_reducible apply W3);(simp (disch:=omega);exact Red.rfl)))
        refine q_drop (.inr rfl) (by simp; exact Red.rfl) (by simp) ⟨rfl, 0, 6, rfl, .inr (.inr ⟨hv, hc, ⟨rfl, hok⟩, ⟨by omega, by omega⟩, .inr ⟨rfl, rfl, fun r h0 h1 => h3 r h0 (by omega)⟩⟩)⟩
      · have hb0 : ¬ best < 0 := by omega
        repeat (first|(with_reducible first|apply X1|apply X2|apply X3|apply X4|apply X5|apply X8|apply Y1|apply Y4|apply Y6)|((with_reducible apply e_end);(simp;exact Red.rfl))|((with_reducible apply O1);rfl;(simp (disch:=omega) [hb0];exact Red.rfl);exact Red.rfl;(focus (first|(simp;done)|omega|(simp;omega))))|((with_reducible apply W3);(simp (disch:=omega) [hb0];exact Red.rfl)))
        refine q_drop (.inr rfl) (by simp; exact Red.rfl) (by simp) ⟨rfl, best, 0, rfl, .inr (.inr ⟨hv, hc, ⟨rfl, hok⟩, ⟨by omega, by omega⟩, .inl ⟨rfl, ⟨by omega, by omega⟩, by simpa using h3, fun r h5 h6 => by simpa using h4 r h5 (by omega)⟩⟩)⟩
end Go.Proofs
