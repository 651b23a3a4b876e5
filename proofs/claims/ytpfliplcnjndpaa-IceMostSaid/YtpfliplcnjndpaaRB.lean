/- Several texts as one. -/
import Derived.Test.YtpfliplcnjndpaaRA
import Derived.Test.YtpfliplcnjndpaaRunIceAlive
/- Ice: hours that go on; the law's contract. -/
namespace Go.Proofs
open Go.Abs
attribute [local simp] AOp.den AOpd.ev lk cellsOf rd_new rd_new0 rd_zero rd_succ wr_new wr_new0 wr_zero wr_succ splice fillA binA scal sliceCells List.length_append argsT AV.sc scL AObj.sc resV getAll AR.get AOp.slots opdSlots opdsSlots partSlots eqAt at_new0 at_new set_new0 set_new wrap64
set_option linter.unusedSimpArgs false
set_option linter.unusedVariables false
theorem c_aliveI (H : Heap) : ACalls Try.prog F.law02_alive [] H (fun v h => v = .bool true ∧ h = H) := Try.true33 H
/-- The later cover: its beds are as thick as was told. -/
def Cv.later (c : Cv) (P : Nat → Nat → Bool) (k : Nat) : Cv :=
  { c with bs := (List.range c.bs.length).map fun s => ⟨befF c (endT true c) P s k, befF c (endT false c) P s k, (c.b s).sun⟩, hs := c.hs.drop k }
theorem later_h {c : Cv} {P : Nat → Nat → Bool} {k j : Nat} : (c.later P k).h j = c.h (k + j) := by
  simp [Cv.later, Cv.h, List.getD_eq_getElem?_getD, List.getElem?_drop]
theorem later_len {c : Cv} {P : Nat → Nat → Bool} {k : Nat} : (c.later P k).bs.length = c.bs.length := by simp [Cv.later]
theorem PlAt.drop {h : Heap} {pid off n : Nat} {ex : Bool} {L : Nat → List Int} (hp : PlAt h (.slice pid off n 1 ex) n L) {k : Nat} (hk : k ≤ n) (ex' : Bool) : PlAt h (.slice pid (off + k) (n - k) 1 ex') (n - k) (fun j => L (k + j)) := by
  obtain ⟨_, _, _, vs, e, hr, hv⟩ := hp
  cases e
  refine ⟨pid, off + k, ex', fun j => vs (k + j), rfl, ?_, fun j hj => hv (k + j) (by omega)⟩
  have := rd_sub' hr k ((n - k) * 1) (by omega)
  rw [this]
  congr 1
  apply List.ext_getElem
  · simp
  · intro i h1 h2; simp
theorem PlAt.take {h : Heap} {pid off n : Nat} {ex : Bool} {L : Nat → List Int} (hp : PlAt h (.slice pid off n 1 ex) n L) {k : Nat} (hk : k ≤ n) (ex' : Bool) : PlAt h (.slice pid off k 1 ex') k L := by
  obtain ⟨_, _, _, vs, e, hr, hv⟩ := hp
  cases e
  refine ⟨pid, off, ex', vs, rfl, ?_, fun j hj => hv j (by omega)⟩
  have := rd_sub' hr 0 (k * 1) (by omega)
  rw [Nat.add_zero] at this
  rw [this]
  congr 1
  apply List.ext_getElem
  · simp; omega
  · intro i h1 h2; simp
theorem okPl.later {c : Cv} {P : Nat → Nat → Bool} {k : Nat} {L : Nat → List Int} (h : okPl c L) : okPl (c.later P k) (fun j => L (k + j)) := by
  intro j hj
  have hj2 : k + j < c.hs.length := by simp [Cv.later] at hj; omega
  have := h (k + j) hj2
  simp only [handsF, later_h, later_len] at this ⊢
  exact this
theorem okPl.till {c : Cv} {k : Nat} {L : Nat → List Int} (h : okPl c L) (hk : k ≤ c.hs.length) : okPl (c.till k) L := by
  intro j hj
  have hj2 : j < k := by simp [Cv.till] at hj; omega
  have := h j (by omega)
  have e : (c.till k).h j = c.h j := by
    rw [Cv.h_eq (by simp [Cv.till]; omega), Cv.h_eq (by omega)]
    simp [Cv.till]
  simp only [handsF, e] at this ⊢
  exact this
end Go.Proofs
/- A memory of any form. -/
namespace Go.Proofs
open Go.Abs
attribute [local simp] AOp.den AOpd.ev lk cellsOf rd_new rd_new0 rd_zero rd_succ wr_new wr_new0 wr_zero wr_succ splice fillA binA scal sliceCells List.length_append argsT AV.sc scL AObj.sc resV getAll AR.get AOp.slots opdSlots opdsSlots partSlots eqAt at_new0 at_new set_new0 set_new wrap64
set_option linter.unusedSimpArgs false
set_option linter.unusedVariables false
theorem gen_ops {P : Program} {l : List AO} {K : St → Prop} {t : List (Nat × AV)} {h : Heap} (F : List (Nat × AV) → Heap → Prop) (hF : F t h) (hn : ∀ t h, F t h → EOps P l K t h) : EOps P l K t h := hn t h hF
end Go.Proofs
/- Ice: as many sleds as it bears. -/
namespace Go.Proofs
open Go.Abs
attribute [local simp] AOp.den AOpd.ev lk cellsOf rd_new rd_new0 rd_zero rd_succ wr_new wr_new0 wr_zero wr_succ splice fillA binA scal sliceCells List.length_append argsT AV.sc scL AObj.sc resV getAll AR.get AOp.slots opdSlots opdsSlots partSlots eqAt at_new0 at_new set_new0 set_new wrap64
set_option linter.unusedSimpArgs false
set_option linter.unusedVariables false
def hrSet (h : Hr) (r : Int) : Hr := ⟨h.m1, h.m2, r, h.crew, h.cold⟩
/-- A cover with another number of sleds in an hour. -/
def Cv.withR (c : Cv) (k : Nat) (r : Int) : Cv := { c with hs := (List.range c.hs.length).map fun j => if j = k then hrSet (c.h j) r else c.h j }
theorem withR_len {c : Cv} {k : Nat} {r : Int} : (c.withR k r).hs.length = c.hs.length := by simp [Cv.withR]
theorem withR_h {c : Cv} {k : Nat} {r : Int} {j : Nat} (hj : j < c.hs.length) : (c.withR k r).h j = if j = k then hrSet (c.h j) r else c.h j := by
  rw [Cv.h_eq (by rw [withR_len]; exact hj)]
  simp [Cv.withR]
theorem withR_ok {c : Cv} {n k : Nat} {r : Int} (hc : c.ok n) (h0 : 0 ≤ r) (h1 : r ≤ 60) : (c.withR k r).ok n := by
  refine ⟨hc.len, by rw [withR_len]; exact hc.hours, hc.bok, fun i hi => ?_, hc.rul⟩
  rw [withR_len] at hi
  rw [← Cv.h_eq (by rw [withR_len]; exact hi), withR_h hi]
  have := hc.hok i hi
  rw [← Cv.h_eq hi] at this
  split
  · exact ⟨this.1, ⟨h0, h1⟩, this.2.2⟩
  · exact this
theorem withR_okPl {c : Cv} {k : Nat} {r : Int} {L : Nat → List Int} (h : okPl c L) : okPl (c.withR k r) L := by
  intro j hj
  rw [withR_len] at hj
  have := h j hj
  simp only [handsF, withR_h hj] at this ⊢
  by_cases e : j = k
  · rw [if_pos e]; exact this
  · rw [if_neg e]; exact this
theorem put_hr {c : Cv} {k : Nat} {r r' : Int} (hk : k < c.hs.length) : splice (avR (hrR (c.withR k r)) c.hs.length) (k * 5 + 2) [.int .i64 r'] = avR (hrR (c.withR k r')) c.hs.length := by
  refine (plain_hr _).put (plain_hr _) hk (by simp) ?_ (fun j hj hne => ?_)
  · simp only [hrR, withR_h hk, if_true, hrSet, Hr.av, splice]; rfl
  · simp only [hrR, withR_h hj, if_neg hne]
theorem withR_own {c : Cv} {k : Nat} (hk : k < c.hs.length) : c.withR k (c.h k).runs = c := by
  have : ((List.range c.hs.length).map fun j => if j = k then hrSet (c.h j) (c.h k).runs else c.h j) = c.hs := by
    refine map_at c.hs _ fun i hi => ?_
    by_cases e : i = k
    · subst e; rw [if_pos rfl, ← Cv.h_eq hi]; rfl
    · rw [if_neg e, Cv.h_eq hi]
  simp only [Cv.withR, this]
theorem c_CloneH (H : Heap) (c : Cv) (id off : Nat) (ex : Bool) (hs : rd H id off (c.hs.length * 5) = some (c.hs.flatMap Hr.av)) (hn : c.hs.length ≤ 1000) (h1 : 1 ≤ c.hs.length) :
    ACalls Try.prog F.slices_Clone_api_Hour_api_Hour [.slice id off c.hs.length 5 ex] H (fun v h' => v = .slice H.length 0 c.hs.length 5 false ∧ h' = H ++ [.cells (c.hs.flatMap Hr.av) true]) := by
  refine acalls_of ok_slices_Clone_api_Hour_api_Hour rfl fun hcl => ?_
  unfold ac_slices_Clone_api_Hour_api_Hour
  simp only [argsT, Nat.zero_add, Nat.reduceAdd]
  have hid := rd_lt hs
  have pl := (plain_hr c).plain c.hs.length
  rw [← flat_hr] at pl
  have hle : c.hs.length * 40 ≤ 140737488355328 := by omega
  have hne : ¬ c.hs.length = 0 := by omega
  have hne2 : ¬ c.hs = [] := by intro h; rw [h] at h1; simp at h1
  repeat (first|(with_reducible first|apply X1|apply X2|apply X3|apply X5|apply X8)|((with_reducible apply e_end);(simp;exact Red.rfl))|((with_reducible apply O1);rfl;(simp (disch:=omega) [AOp.fx, eqvA, rd_old _ hid, hs, pl.scal, hle, hne, hne2];exact Red.rfl);exact Red.rfl;(focus (first|(simp;done)|omega|(simp;omega))))|((with_reducible apply W3);(simp (disch:=omega) [AOp.fx, eqvA, rd_old _ hid, hs, pl.scal, hle, hne, hne2];exact Red.rfl)))
  exact q_post (v' := .slice H.length 0 c.hs.length 5 false) (.inr rfl) (by simp; exact Red.rfl) (le_plain [1] _ (by simp) rfl (by simp; exact pl.o _) (by simp [sh, AV.ren])) ⟨rfl, rfl⟩
/-- Whether nothing is too thin in an hour with some sleds, in the worst truth. -/
def goodR (c : Cv) (L : Nat → List Int) (k : Nat) (r : Int) : Prop := thL (c.withR k r) (endT true (c.withR k r)) (inP L) k c.bs.length = []
def mostE (c : Cv) (L : Nat → List Int) (k : Nat) (n e : Int) : Prop :=
  (e = 0 ∧ (0 ≤ n ∧ n ≤ 60) ∧ goodR c L k n ∧ ∀ r : Int, n < r → r ≤ 60 → ¬ goodR c L k r) ∨ (e = 6 ∧ n = 0 ∧ ∀ r : Int, 0 ≤ r → r ≤ 60 → ¬ goodR c L k r)
def mostG (l : List Str) (c : Cv) (n : Nat) (L : Nat → List Int) (h : Int) (m e : Int) : Prop :=
  (plE l c n L e ∧ e ≠ 0 ∧ m = 0) ∨ (validL l ∧ c.ok l.length ∧ (n = c.hs.length ∧ okPl c L) ∧ ¬ (0 ≤ h ∧ h < c.hs.length) ∧ e = 2 ∧ m = 0) ∨
  (validL l ∧ c.ok l.length ∧ (n = c.hs.length ∧ okPl c L) ∧ (0 ≤ h ∧ h < c.hs.length) ∧ mostE c L h.toNat m e)
set_option maxHeartbeats 2000000 in
theorem c_iMostG (H : Heap) (l : List Str) (c : Cv) (p : Plc) (hp : CvAt H c p) (ht : TrAt H l p) (hn : (l.length : Int) < 1000000) (hn1 : (c.bs.length : Int) < 1000000) (hn2 : (c.hs.length : Int) < 1000000)
    (pl : AV) (n : Nat) (L : Nat → List Int) (hpl : PlAt H pl n L) (hL : ∀ k, k < n → ((L k).length : Int) < 1000000) (hn3 : (n : Int) < 1000000) (h : Int) :
    ACalls Try.prog F.ice_Most [.agg (c.av p), pl, .int .i64 h] H (fun v h' => h' = H ∧ ∃ m e : Int, v = .tuple [.int .i64 m, .int .i64 e] ∧ mostG l c n L h m e) := by
  have k0 := fun G => c_checkPlan (H ++ G) l c p (hp.app G) (ht.app G) hn hn1 hn2 pl n L (hpl.app G) hL hn3
  have hp1 := hp.t
  have hp2 := rd_lt hp.b
  have hp3 := rd_lt hp.h
  have hpa := fun G => hp.app G
  have hpla := fun G => hpl.app G
  obtain ⟨pid, poff, pex, rfl, hpid, hrow⟩ := hpl.get
  simp only [Cv.av] at *
  refine acalls_of ok_ice_Most rfl fun hcl => ?_
  unfold ac_ice_Most
  simp only [argsT, Nat.zero_add, Nat.reduceAdd]
  repeat (first|(with_reducible first|apply X1|apply X2|apply X8)|((with_reducible apply e_end);(simp;exact Red.rfl))|((with_reducible apply O1);rfl;(simp (disch:=omega);exact Red.rfl);exact Red.rfl;(focus (first|(simp;done)|omega|(simp;omega)))))
  (with_reducible apply e_call); (simp; exact Red.rfl); exact k0 _
  rintro _ _ ⟨rfl, e, rfl, hv⟩
  by_cases he : e = 0
  rotate_left
  · repeat (first|(with_reducible first|apply X1|apply X2|apply X3|apply X8|apply X9)|((with_reducible apply e_end);(simp;exact Red.rfl))|((with_reducible apply O1);rfl;(simp (disch:=omega) [he];exact Red.rfl);exact Red.rfl;(focus (first|(simp;done)|omega|(simp;omega))))|((with_reducible apply Z9);(simp (disch:=omega) [he];exact Red.rfl)))
    refine q_drop (.inr rfl) (by simp; exact Red.rfl) (by simp) ⟨rfl, 0, e, rfl, .inl ⟨hv, he, rfl⟩⟩
  subst he
  obtain ⟨hv, hc, ⟨rfl, hok⟩, _⟩ | h | h := hv
  rotate_left
  · exact absurd rfl h.2.2
  · exact absurd h.2.2.2 (by decide)
  have h12 := hv.1
  have hlen := hc.len
  have h8 := hc.hours
  obtain ⟨b1, h1⟩ := bof (0 ≤ h ∧ h ≤ (c.hs.length : Int) - 1)
  repeat (first|(with_reducible first|apply X1|apply X2|apply X5|apply X8)|((with_reducible apply e_end);(simp;exact Red.rfl))|((with_reducible apply O1);rfl;(simp (disch:=omega);exact Red.rfl);exact Red.rfl;(focus (first|(simp;done)|omega|(simp;omega))))|((with_reducible apply W3);(simp (disch:=omega);exact Red.rfl)))
  (with_reducible apply e_call); (simp; exact Red.rfl); exact c_upto _ _
  rintro _ _ ⟨rfl, rfl⟩
  repeat ((with_reducible apply O1);rfl;(simp (disch:=omega);exact Red.rfl);exact Red.rfl;(focus (first|(simp;done)|omega|(simp;omega))))
  (with_reducible apply e_call); (simp; exact Red.rfl); exact c_within1 _ _ _ _ _ _ _ h1 (by simp)
  rintro _ _ ⟨rfl, rfl⟩
  cases b1 with
  | false =>
    repeat (first|(with_reducible first|apply X1|apply X2|apply X3|apply X8|apply X9)|((with_reducible apply e_end);(simp;exact Red.rfl))|((with_reducible apply O1);rfl;(simp (disch:=omega);exact Red.rfl);exact Red.rfl;(focus (first|(simp;done)|omega|(simp;omega))))|((with_reducible apply Z9);(simp (disch:=omega);exact Red.rfl)))
    refine q_drop (.inr rfl) (by simp; exact Red.rfl) (by simp) ⟨rfl, 0, 2, rfl, .inr (.inl ⟨hv, hc, ⟨rfl, hok⟩, (fun h3 => by have := h1.2 ⟨h3.1, by omega⟩; cases this), rfl, rfl⟩)⟩
  | true =>
  have h1 := h1.1 rfl
  obtain ⟨k, rfl⟩ : ∃ n : Nat, h = n := ⟨h.toNat, by omega⟩
  have hk : k < c.hs.length := by omega
  have kc := fun G => c_CloneH (H ++ G) c p.hid p.hoff p.hex (by rw [rd_old _ hp3]; exact hp.h) (by omega) (by omega)
  repeat (first|(with_reducible first|apply X1|apply X2|apply X5|apply X8)|((with_reducible apply e_end);(simp;exact Red.rfl))|((with_reducible apply O1);rfl;(simp (disch:=omega);exact Red.rfl);exact Red.rfl;(focus (first|(simp;done)|omega|(simp;omega))))|((with_reducible apply W3);(simp (disch:=omega);exact Red.rfl)))
  (with_reducible apply e_call); (simp; exact Red.rfl); exact kc _
  rintro _ _ ⟨rfl, rfl⟩
  have k1 := fun r (h0 : 0 ≤ r) (h1 : r ≤ 60) X (p2 : Plc) hX hpl => c_thin true X (c.withR k r) p2 _ hX (withR_ok hc h0 h1) (.slice pid poff c.hs.length 1 pex) L hpl (by rw [withR_len]; exact hL) k (by rw [withR_len]; exact hk) (by omega)
  have k2 := fun X r (p2 : Plc) hX => c_worst X (c.withR k r) p2 hX
  have e0 : c.hs.flatMap Hr.av = avR (hrR (c.withR k (c.h k).runs)) c.hs.length := by rw [withR_own hk, flat_hr]
  rw [e0]
  repeat (first|(with_reducible first|apply X1|apply X2|apply X6|apply X8)|((with_reducible apply e_end);(simp;exact Red.rfl))|((first|((with_reducible apply O1);rfl)|((with_reducible apply O2);rfl));(simp (disch:=omega);exact Red.rfl);exact Red.rfl;(focus (first|(simp;done)|omega|(simp;omega)))))
  refine e_loop (ι := { x : Nat × Heap // x.1 ≤ 61 ∧ ∀ r : Int, 60 - (x.1 : Int) < r → r ≤ 60 → ¬ goodR c L k r })
    (fun x => [(1, .slice pid poff c.hs.length 1 pex), (2, .int .i64 k), (3, .ptr H.length 0), (30, .int .i64 x.1.1)])
    (fun x => H ++ AObj.cells [.slice p.tid p.toff p.tn 9 p.tex, .slice p.bid p.boff c.bs.length 3 p.bex, .slice (H.length + 2) 0 c.hs.length 5 false, .int .i64 c.w1, .int .i64 c.w2, .int .i64 c.y1, .int .i64 c.y2, .int .i64 c.rate, .int .i64 c.lim, .int .i64 c.base] true :: AObj.cells [.int .i64 (k : Int)] true :: AObj.cells (avR (hrR (c.withR k (if x.1.1 = 0 then (c.h k).runs else 61 - (x.1.1 : Int)))) c.hs.length) true :: x.1.2) (fun x => 61 - x.1.1) ⟨(0, []), by simp, by simp; omega⟩ ?_ ?_
  · exact .inl rfl
  · rintro ⟨⟨i, K⟩, hi, hbad⟩
    dsimp only at hi hbad ⊢
    by_cases hlt : i < 61
    · have hlt2 : (i : Int) < 61 := by omega
      have hput := put_hr (c := c) (k := k) (r := if i = 0 then (c.h k).runs else 61 - (i : Int)) (r' := 60 - (i : Int)) hk
      have hll := (plain_hr (c.withR k (if i = 0 then (c.h k).runs else 61 - (i : Int)))).length c.hs.length
      have le1 : k * 5 + 2 + 1 ≤ c.hs.length * 5 := by omega
      generalize avR (hrR (c.withR k (if i = 0 then (c.h k).runs else 61 - (i : Int)))) c.hs.length = old at *
      repeat (first|(with_reducible first|apply X1|apply X2|apply X5|apply X6|apply X8)|((with_reducible apply e_end);(simp;exact Red.rfl))|((with_reducible apply O1);rfl;(simp (disch:=omega) [hlt2, hk];exact Red.rfl);exact Red.rfl;(focus (first|(simp;done)|omega|(simp;omega))))|((with_reducible apply Z9);(simp (disch:=omega) [hlt2, hk];exact Red.rfl)))
      repeat (first|(with_reducible first|apply X1|apply X2|apply X8)|((with_reducible apply e_end);(simp;exact Red.rfl))|((first|((with_reducible apply O1);rfl)|((with_reducible apply O2);rfl));(simp (disch:=omega) [Nat.add_assoc, hll, le1, -splice, hput];exact Red.rfl);exact Red.rfl;(focus (first|(simp;done)|omega|(simp;omega)))))
      have hX : ∀ K, CvAt (H ++ AObj.cells [.slice p.tid p.toff p.tn 9 p.tex, .slice p.bid p.boff c.bs.length 3 p.bex, .slice (H.length + 2) 0 c.hs.length 5 false, .int .i64 c.w1, .int .i64 c.w2, .int .i64 c.y1, .int .i64 c.y2, .int .i64 c.rate, .int .i64 c.lim, .int .i64 c.base] true :: AObj.cells [.int .i64 (k : Int)] true :: AObj.cells (avR (hrR (c.withR k (60 - (i : Int)))) c.hs.length) true :: K) (c.withR k (60 - (i : Int))) ⟨p.tid, p.toff, p.tex, p.tn, p.bid, p.boff, p.bex, H.length + 2, 0, false⟩ := fun K => by
        have h1 := hpa (AObj.cells [.slice p.tid p.toff p.tn 9 p.tex, .slice p.bid p.boff c.bs.length 3 p.bex, .slice (H.length + 2) 0 c.hs.length 5 false, .int .i64 c.w1, .int .i64 c.w2, .int .i64 c.y1, .int .i64 c.y2, .int .i64 c.rate, .int .i64 c.lim, .int .i64 c.base] true :: AObj.cells [.int .i64 (k : Int)] true :: AObj.cells (avR (hrR (c.withR k (60 - (i : Int)))) c.hs.length) true :: K)
        refine ⟨h1.t, h1.b, ?_⟩
        rw [flat_hr, withR_len]
        exact rd_full (b := true) (by simp [at_new]) ((plain_hr _).length _)
      have hpX := fun K => hpla (AObj.cells [.slice p.tid p.toff p.tn 9 p.tex, .slice p.bid p.boff c.bs.length 3 p.bex, .slice (H.length + 2) 0 c.hs.length 5 false, .int .i64 c.w1, .int .i64 c.w2, .int .i64 c.y1, .int .i64 c.y2, .int .i64 c.rate, .int .i64 c.lim, .int .i64 c.base] true :: AObj.cells [.int .i64 (k : Int)] true :: AObj.cells (avR (hrR (c.withR k (60 - (i : Int)))) c.hs.length) true :: K)
      have k1 := k1 (60 - (i : Int)) (by omega) (by omega) _ _ (hX K) (by rw [withR_len]; exact hpX K)
      have k2 := k2 _ _ _ (hX K)
      simp only [Cv.av, Cv.tv, withR_len] at k1 k2
      (with_reducible apply e_call); (simp; exact Red.rfl); exact k2
      rintro _ _ ⟨rfl, rfl⟩
      repeat ((with_reducible apply O1);rfl;(simp (disch:=omega);exact Red.rfl);exact Red.rfl;(focus (first|(simp;done)|omega|(simp;omega))))
      (with_reducible apply e_call); (simp; exact Red.rfl); exact k1
      rintro _ _ ⟨rfl, rfl⟩
      (with_reducible apply e_op); rfl; exact ls_len (by simp; rfl) _; exact Red.rfl; trivial
      have hgd : goodR c L k (60 - (i : Int)) ↔ (thL (c.withR k (60 - (i : Int))) (endT true (c.withR k (60 - (i : Int)))) (inP L) k (c.withR k (60 - (i : Int))).bs.length).length = 0 := by
        rw [List.length_eq_zero_iff]; rfl
      generalize thL (c.withR k (60 - (i : Int))) (endT true (c.withR k (60 - (i : Int)))) (inP L) k (c.withR k (60 - (i : Int))).bs.length = T at *
      by_cases hT : T.length = 0
      · have hT2 : T = [] := List.length_eq_zero_iff.1 hT
        repeat (first|(with_reducible first|apply X1|apply X2|apply X3|apply X8|apply X9|apply Y3|apply Y5)|((with_reducible apply e_end);(simp;exact Red.rfl))|((with_reducible apply O1);rfl;(simp (disch:=omega) [hT, hT2];exact Red.rfl);exact Red.rfl;(focus (first|(simp;done)|omega|(simp;omega))))|((with_reducible apply Z9);(simp (disch:=omega) [hT, hT2];exact Red.rfl)))
        refine q_drop (.inr rfl) (by simp; exact Red.rfl) (by simp) ⟨rfl, 60 - (i : Int), 0, rfl, .inr (.inr ⟨hv, hc, ⟨rfl, hok⟩, ⟨by omega, by omega⟩, .inl ⟨rfl, ⟨by omega, by omega⟩, hgd.2 hT, hbad⟩⟩)⟩
      · have hT2 : ¬ T = [] := fun h => hT (List.length_eq_zero_iff.2 h)
        repeat (first|(with_reducible first|apply X2|apply X5|apply X8|apply Y2)|((with_reducible apply e_end);(simp;exact Red.rfl))|((with_reducible apply O1);rfl;(simp (disch:=omega) [hT, hT2];exact Red.rfl);exact Red.rfl;(focus (first|(simp;done)|omega|(simp;omega))))|((with_reducible apply W3);(simp (disch:=omega) [hT, hT2];exact Red.rfl)))
        refine q_again ⟨(i + 1, K ++ lsO T.length (iv T)), by dsimp only; omega, fun r h1 h2 => ?_⟩ (by dsimp only; omega) (.inl ?_)
        · by_cases e : r = 60 - (i : Int)
          · subst e; exact fun h => hT (hgd.1 h)
          · exact hbad r (by simp at h1; omega) h2
        · have e : 61 - ((i : Int) + 1) = 60 - (i : Int) := by omega
          simp [e]
    · obtain rfl : i = 61 := by omega
      repeat (first|(with_reducible first|apply X1|apply X2|apply X3|apply X4|apply X8|apply Y1|apply Y4|apply Y6)|((with_reducible apply e_end);(simp;exact Red.rfl))|((with_reducible apply O1);rfl;(simp (disch:=omega);exact Red.rfl);exact Red.rfl;(focus (first|(simp;done)|omega|(simp;omega))))|((with_reducible apply W3);(simp (disch:=omega);exact Red.rfl)))
      refine q_drop (.inr rfl) (by simp; exact Red.rfl) (by simp) ⟨rfl, 0, 6, rfl, .inr (.inr ⟨hv, hc, ⟨rfl, hok⟩, ⟨by omega, by omega⟩, .inr ⟨rfl, rfl, fun r h0 h1 => hbad r (by omega) h1⟩⟩)⟩
end Go.Proofs
/- Ice: as many sleds as an hour bears; the law's contract. -/
namespace Go.Proofs
open Go.Abs
attribute [local simp] AOp.den AOpd.ev lk cellsOf rd_new rd_new0 rd_zero rd_succ wr_new wr_new0 wr_zero wr_succ splice fillA binA scal sliceCells List.length_append argsT AV.sc scL AObj.sc resV getAll AR.get AOp.slots opdSlots opdsSlots partSlots eqAt at_new0 at_new set_new0 set_new wrap64
set_option linter.unusedSimpArgs false
set_option linter.unusedVariables false
theorem thP_hour {c : Cv} {t : Tn} {P : Nat → Nat → Bool} {n k : Nat} (hk : k < n) : (∃ x ∈ thP c t P n, x.1 = k) ↔ thL c t P k c.bs.length ≠ [] := by
  constructor
  · rintro ⟨x, hx, hxk⟩ h
    obtain ⟨a, s, h1, h2, h3, rfl⟩ := thP_mem.1 hx
    have : a = k := by simp at hxk; omega
    subst this
    have : ((s : Nat) : Int) ∈ thL c t P a c.bs.length := thL_mem.2 ⟨s, h2, h3, rfl⟩
    rw [h] at this; simp at this
  · intro h
    obtain ⟨x, hx⟩ := List.exists_mem_of_ne_nil _ h
    obtain ⟨s, h1, h2, rfl⟩ := thL_mem.1 hx
    exact ⟨((k : Int), (s : Int)), thP_mem.2 ⟨k, s, hk, h1, h2, rfl⟩, rfl⟩
theorem PAt.get' {h : Heap} {v : AV} {l : List (Int × Int)} (hl : RAt h 2 v (pv l) l.length) {i : Nat} (hi : i < l.length) : ∃ id off ex, v = .slice id off l.length 2 ex ∧ rd h id (off + i * 2) 2 = some [.int .i64 l[i].1, .int .i64 l[i].2] ∧ id < h.length := by
  obtain ⟨id, off, ex, rfl, hh⟩ := RAt.slice hl (by omega)
  refine ⟨id, off, ex, rfl, ?_, rd_lt hh⟩
  exact rd_row (f := fun p : Int × Int => [AV.int .i64 p.1, AV.int .i64 p.2]) (fun _ => rfl) hh hi
theorem flat_len' {α : Type} {f : α → List AV} {m : Nat} (hf : ∀ a, (f a).length = m) (l : List α) : (l.flatMap f).length = l.length * m := by
  induction l with
  | nil => simp
  | cons a l ih => rw [List.flatMap_cons, List.length_append, ih, hf, List.length_cons, Nat.add_mul]; omega
theorem c_most1 (X : Heap) (l : List Str) (c : Cv) (p : Plc) (hp : CvAt X c p) (ht : TrAt X l p) (hv : validL l) (hc : c.ok l.length) (pl : AV) (L : Nat → List Int) (hpl : PlAt X pl c.hs.length L) (hL : okPl c L) (k : Nat) (hk : k < c.hs.length) (r : Int) (h0 : 0 ≤ r) (h1 : r ≤ 60)
    (q1 q2 q3 : Nat) (hq1 : rd X q1 0 10 = some (c.av p)) (hq2 : rd X q2 0 1 = some [.int .i64 k]) (hq3 : rd X q3 0 1 = some [pl]) {b : Bool} (hb : b = true ↔ ¬ goodR c L k r) :
    ACalls Try.prog F.law02_IceMost_1 [.int .i64 r, .ptr q1 0, .ptr q2 0, .ptr q3 0] X (fun v h' => v = .bool b ∧ h' = X) := by
  have h12 := hv.1
  have hlen := hc.len
  have h8 := hc.hours
  have l1 := rd_lt hq1
  have l2 := rd_lt hq2
  have l3 := rd_lt hq3
  have htw := c_r2Twin X l c p hp ht (by omega) (by omega) (by omega)
  have hput := put_hr (c := c) (k := k) (r := (c.h k).runs) (r' := r) hk
  rw [withR_own hk] at hput
  have hll := (plain_hr c).length c.hs.length
  have le1 : k * 5 + 2 + 1 ≤ c.hs.length * 5 := by omega
  have hcR := withR_ok (k := k) hc h0 h1
  have kth := fun K => c_iThinV (X ++ AObj.cells (l.flatMap Str.av) true :: AObj.cells (c.bs.flatMap Bd.av) true :: AObj.cells (avR (hrR (c.withR k r)) c.hs.length) true :: K) l (c.withR k r) (twP X l.length)
    ⟨by simp [twP], rd_full (b := true) (by simp [twP, at_new]; rfl) (flat_len' Bd.av_length c.bs), by rw [flat_hr, withR_len]; exact rd_full (b := true) (by simp [twP, at_new]) ((plain_hr _).length _)⟩
    ⟨rfl, rd_full (b := true) (by simp [twP, at_new0]) (flat_len' Str.av_length l)⟩ hv hcR pl L (by rw [withR_len]; exact hpl.app _) (withR_okPl hL)
  have hTb : (thP (c.withR k r) (endT true (c.withR k r)) (inP L) c.hs.length).length ≤ 8 * 12 := Nat.le_trans (thP_len _ _ _ _) (Nat.mul_le_mul (by omega) (by have := hcR.len; omega))
  have hgd : ¬ goodR c L k r ↔ ∃ x ∈ thP (c.withR k r) (endT true (c.withR k r)) (inP L) c.hs.length, x.1 = k := by
    rw [thP_hour hk]; rfl
  rw [hgd] at hb
  rw [withR_len] at kth
  generalize thP (c.withR k r) (endT true (c.withR k r)) (inP L) c.hs.length = T at *
  rw [flat_hr c] at htw
  generalize avR (hrR c) c.hs.length = old at *
  simp only [Cv.av, twP, withR_len] at *
  refine acalls_of ok_law02_IceMost_1 rfl fun hcl => ?_
  unfold ac_law02_IceMost_1
  simp only [argsT, Nat.zero_add, Nat.reduceAdd]
  repeat (first|(with_reducible first|apply X1|apply X2|apply X8)|((with_reducible apply e_end);(simp;exact Red.rfl))|((with_reducible apply O1);rfl;(simp (disch:=omega) [hq1];exact Red.rfl);exact Red.rfl;(focus (first|(simp;done)|omega|(simp;omega)))))
  (with_reducible apply e_call); (simp; exact Red.rfl); exact htw
  rintro _ _ ⟨rfl, rfl⟩
  repeat (first|(with_reducible first|apply X1|apply X2|apply X8)|((with_reducible apply e_end);(simp;exact Red.rfl))|((first|((with_reducible apply O1);rfl)|((with_reducible apply O2);rfl));(simp (disch:=omega) [rd_old _ l2, hq2, hk];exact Red.rfl);exact Red.rfl;(focus (first|(simp;done)|omega|(simp;omega)))))
  repeat (first|(with_reducible first|apply X1|apply X2|apply X8)|((with_reducible apply e_end);(simp;exact Red.rfl))|((first|((with_reducible apply O1);rfl)|((with_reducible apply O2);rfl));(simp (disch:=omega) [Nat.add_assoc, hll, le1, -splice, hput];exact Red.rfl);exact Red.rfl;(focus (first|(simp;done)|omega|(simp;omega)))))
  repeat ((with_reducible apply O1);rfl;(simp (disch:=omega) [rd_old _ l3, hq3];exact Red.rfl);exact Red.rfl;(focus (first|(simp;done)|omega|(simp;omega))))
  (with_reducible apply e_call); (simp; exact Red.rfl); exact kth _
  rintro _ _ ⟨rfl, rfl⟩
  have hT1 := ls_at (sz := 2) (X ++ [.cells (l.flatMap Str.av) true, .cells (c.bs.flatMap Bd.av) true, .cells (avR (hrR (c.withR k r)) c.hs.length) true, .cells [.slice X.length 0 l.length 9 false, .slice (X.length + 1) 0 c.bs.length 3 false, .slice (X.length + 2) 0 c.hs.length 5 false, .int .i64 c.w1, .int .i64 c.w2, .int .i64 c.y1, .int .i64 c.y2, .int .i64 c.rate, .int .i64 c.lim, .int .i64 c.base] true]) (pv_length T)
  repeat (first|(with_reducible first|apply X1|apply X2|apply X8)|((with_reducible apply e_end);(simp;exact Red.rfl))|((with_reducible apply O1);rfl;(simp (disch:=omega);exact Red.rfl);exact Red.rfl;(focus (first|(simp;done)|omega|(simp;omega)))))
  refine gen_ops (fun t h => ∃ tv G, t = [(25, tv), (2, .ptr q2 0), (7, tv), (8, .int .i64 0)] ∧ h = X ++ G ∧ RAt h 2 tv (pv T) T.length) ⟨_, ?G, rfl, ?h1, ?h2⟩ ?h3
  case h1 => exact rfl
  case h2 => have := hT1.l.r; simpa using this
  rintro _ _ ⟨tv, G, rfl, rfl, hT⟩
  have hTsc : ∀ k, tv.sc (X.length + (G.length + k)) = true := fun k => hT.sc (by simp)
  (with_reducible apply e_op); rfl; exact RAt.len hT _ (by simp); exact Red.rfl; trivial
  repeat (first|(with_reducible first|apply X6|apply X8)|((with_reducible apply e_end);(simp;exact Red.rfl))|((with_reducible apply O1);rfl;(simp (disch:=omega);exact Red.rfl);exact Red.rfl;(focus (first|(simp;done)|omega|(simp;omega)))))
  refine e_loop (ι := { y : Nat × Heap // y.1 ≤ T.length ∧ ∀ j (hj : j < T.length), j < y.1 → T[j].1 ≠ k })
    (fun y => [(2, .ptr q2 0), (8, .int .i64 0), (25, tv), (26, .int .i64 T.length), (27, .int .i64 y.1.1)])
    (fun y => X ++ (G ++ y.1.2)) (fun y => T.length - y.1.1) ⟨(0, []), by simp⟩ ?_ ?_
  · rw [List.append_nil]; exact .inl (by simp)
  · rintro ⟨⟨j, K⟩, hj, hno⟩
    dsimp only at hj hno ⊢
    by_cases hjl : j < T.length
    · have hjl2 : (j : Int) < T.length := by omega
      obtain ⟨id, off, ex, rfl, hx, hid⟩ := PAt.get' hT hjl
      have hx2 : rd (X ++ (G ++ K)) id (off + j * 2) 2 = some [.int .i64 T[j].1, .int .i64 T[j].2] := by
        rw [← List.append_assoc, rd_old _ hid]; exact hx
      by_cases hxk : T[j].1 = k
      · repeat (first|(with_reducible first|apply X1|apply X2|apply X3|apply X5|apply X6|apply X8|apply X9|apply Y3|apply Y5)|((with_reducible apply e_end);(simp;exact Red.rfl))|((first|((with_reducible apply O1);rfl)|((with_reducible apply O2);rfl));(simp (disch:=omega) [hjl, hjl2, hx2, rd_old _ l2, hq2, hxk];exact Red.rfl);exact Red.rfl;(focus (first|(simp;done)|omega|(simp;omega))))|((with_reducible apply Z9);(simp (disch:=omega) [hjl, hjl2, hx2, rd_old _ l2, hq2, hxk];exact Red.rfl)))
        refine q_drop (.inr rfl) (by simp; exact Red.rfl) (by simp) ⟨by rw [AV.bool.injEq]; exact (hb.2 ⟨T[j], List.getElem_mem _, hxk⟩).symm, rfl⟩
      · repeat (first|(with_reducible first|apply X1|apply X2|apply X5|apply X6|apply X8|apply Y2)|((with_reducible apply e_end);(simp;exact Red.rfl))|((first|((with_reducible apply O1);rfl)|((with_reducible apply O2);rfl));(simp (disch:=omega) [hjl, hjl2, hx2, rd_old _ l2, hq2, hxk];exact Red.rfl);exact Red.rfl;(focus (first|(simp;done)|omega|(simp;omega))))|((with_reducible apply Z9);(simp (disch:=omega) [hjl, hjl2, hx2, rd_old _ l2, hq2, hxk];exact Red.rfl))|((with_reducible apply W3);(simp (disch:=omega) [hjl, hjl2, hx2, rd_old _ l2, hq2, hxk];exact Red.rfl)))
        refine q_again ⟨(j + 1, K ++ [.cells [.int .i64 T[j].1, .int .i64 T[j].2] true]), by dsimp only; omega, fun i hi hij => ?_⟩ (by dsimp only; omega) (.inl (by simp))
        rcases Nat.lt_or_ge i j with h | h
        · exact hno i hi h
        · obtain rfl : i = j := by simp at hij; omega
          exact hxk
    · have hjl2 : ¬ (j : Int) < T.length := by omega
      repeat (first|(with_reducible first|apply X1|apply X2|apply X3|apply X4|apply X8|apply Y1|apply Y4|apply Y6)|((with_reducible apply e_end);(simp;exact Red.rfl))|((with_reducible apply O1);rfl;(simp (disch:=omega) [hjl2];exact Red.rfl);exact Red.rfl;(focus (first|(simp;done)|omega|(simp;omega))))|((with_reducible apply W3);(simp (disch:=omega) [hjl2];exact Red.rfl)))
      refine q_drop (.inr rfl) (by simp; exact Red.rfl) (by simp) ⟨?_, rfl⟩
      rw [AV.bool.injEq]
      cases b with
      | false => rfl
      | true =>
        obtain ⟨x, hx, hxk⟩ := hb.1 rfl
        obtain ⟨i, hi, rfl⟩ := List.getElem_of_mem hx
        exact absurd hxk (hno i hi (by omega))
set_option maxHeartbeats 1000000 in
theorem c_lawMost (H : Heap) (l : List Str) (c : Cv) (p : Plc) (us : List Int) (at_ : Int) (uid uoff : Nat) (uex : Bool) (hp : CvAt H c p) (ht : TrAt H l p) (hn : (l.length : Int) ≤ 9223372036854775807) (hn1 : (c.bs.length : Int) ≤ 9223372036854775807) (hn2 : (c.hs.length : Int) ≤ 9223372036854775807)
    (hb : rd H uid uoff us.length = some (us.map (.int .u32))) (ha : 0 ≤ at_ ∧ at_ ≤ 255) (hu : ∀ u ∈ us, 0 ≤ u ∧ u ≤ 4294967295) (hun : (us.length : Int) ≤ 9223372036854775807) :
    ACalls Try.prog F.law02_IceMost [.agg (c.av p), .slice uid uoff us.length 1 uex, .int .u8 at_] H (fun v _ => v = .bool true) := by
  have hp1 := hp.t
  have hp2 := rd_lt hp.b
  have hp3 := rd_lt hp.h
  have huid := rd_lt hb
  have kr := fun G => c_ready2 (H ++ G) l c p (hp.app G) (ht.app G) hn hn1 hn2
  have kd := fun G hc hv => c_drawn2 (H ++ G) l c p (hp.app G) hc hv us 0 uid uoff uex (by rw [rd_old _ huid]; exact hb) hu hun (by omega)
  simp only [Cv.av] at kr kd
  refine acalls_of ok_law02_IceMost rfl fun hcl => ?_
  unfold ac_law02_IceMost
  simp only [argsT, Nat.zero_add, Nat.reduceAdd]
  simp only [Cv.av]
  repeat (first|(with_reducible first|apply X1|apply X2|apply X8)|((with_reducible apply e_end);(simp;exact Red.rfl))|((with_reducible apply O1);rfl;(simp (disch:=omega);exact Red.rfl);exact Red.rfl;(focus (first|(simp;done)|omega|(simp;omega)))))
  (with_reducible apply e_call); (simp; exact Red.rfl); exact c_aliveI _
  rintro _ _ ⟨rfl, rfl⟩
  repeat (first|(with_reducible first|apply X1|apply X2|apply X5|apply X8)|((with_reducible apply e_end);(simp;exact Red.rfl))|((with_reducible apply O1);rfl;(simp (disch:=omega);exact Red.rfl);exact Red.rfl;(focus (first|(simp;done)|omega|(simp;omega))))|((with_reducible apply W3);(simp (disch:=omega);exact Red.rfl)))
  (with_reducible apply e_call); (simp; exact Red.rfl); exact kr _
  rintro _ _ ⟨rfl, b, rfl, hrd⟩
  cases b with
  | false =>
    repeat (first|(with_reducible first|apply X1|apply X2|apply X3|apply X8|apply X9)|((with_reducible apply e_end);(simp;exact Red.rfl))|((with_reducible apply O1);rfl;(simp (disch:=omega);exact Red.rfl);exact Red.rfl;(focus (first|(simp;done)|omega|(simp;omega))))|((with_reducible apply Z9);(simp (disch:=omega);exact Red.rfl)))
    exact q_stay (.inr rfl) (by simp; exact Red.rfl) rfl
  | true =>
  obtain ⟨hv, hc⟩ := hrd.1 rfl
  have h12 := hv.1
  have hlen := hc.len
  have h8 := hc.hours
  repeat (first|(with_reducible first|apply X1|apply X2|apply X5|apply X8)|((with_reducible apply e_end);(simp;exact Red.rfl))|((with_reducible apply O1);rfl;(simp (disch:=omega);exact Red.rfl);exact Red.rfl;(focus (first|(simp;done)|omega|(simp;omega))))|((with_reducible apply W3);(simp (disch:=omega);exact Red.rfl)))
  (with_reducible apply e_call); (simp; exact Red.rfl); exact kd _ hc hv
  rintro pl _ ⟨G, rfl, hpl⟩
  have hokp := plnL_okPl hc us 0
  generalize hL : (fun h => plnL c us 0 h c.bs.length) = L at *
  obtain ⟨k, hk, hkm⟩ : ∃ k : Nat, k < c.hs.length ∧ at_.tmod c.hs.length = k := by
    refine ⟨(at_ % c.hs.length).toNat, ?_, ?_⟩
    · have := Int.emod_lt_of_pos at_ (show (0 : Int) < c.hs.length by omega)
      have := Int.emod_nonneg at_ (show (c.hs.length : Int) ≠ 0 by omega)
      omega
    · rw [Int.tmod_eq_emod_of_nonneg ha.1, Int.toNat_of_nonneg (Int.emod_nonneg at_ (by omega))]
  have hne : c.hs ≠ [] := by intro h; rw [h] at h8; simp at h8
  obtain ⟨pid, poff, pex, rfl, hpid, hrow⟩ := hpl.get
  repeat (first|(with_reducible first|apply X1|apply X2|apply X8)|((with_reducible apply e_end);(simp;exact Red.rfl))|((first|((with_reducible apply O1);rfl)|((with_reducible apply O2);rfl));(simp (disch:=omega) [hkm, hne];exact Red.rfl);exact Red.rfl;(focus (first|(simp;done)|omega|(simp;omega)))))
  have hb0 : ∀ T, PlAt (H ++ AObj.cells (c.av p) true :: (G ++ T)) (.slice pid poff c.hs.length 1 pex) c.hs.length L := fun T => by have := hpl.app T; simpa [Cv.av] using this
  have kM := fun T => c_iMostG (H ++ AObj.cells (c.av p) true :: (G ++ T)) l c p (hp.app _) (ht.app _) (by omega) (by omega) (by omega) (.slice pid poff c.hs.length 1 pex) c.hs.length L (hb0 T) (okPl_len hc hokp) (by omega) k
  simp only [Cv.av] at kM
  (with_reducible apply e_call); (simp; exact Red.rfl); exact kM _
  rintro _ hqh ⟨hqe, m, e, rfl, hm⟩
  rw [hqe]; clear hqe hqh
  obtain ⟨hm, he, _⟩ | ⟨_, _, _, hm, _⟩ | ⟨_, _, _, _, hm⟩ := hm
  · exact (hm.elim (fun h => he h.2.2.2) fun h => h.elim (fun h => h.1 ⟨hv, hc⟩) fun h => h.2.2.1 ⟨rfl, hokp⟩).elim
  · exact absurd ⟨by omega, by omega⟩ hm
  rw [Int.toNat_natCast] at hm
  have kc := fun (r : Int) (h0 : 0 ≤ r) (h1 : r ≤ 60) (T : Heap) {b : Bool} (hb : b = true ↔ ¬ goodR c L k r) => c_most1 (H ++ AObj.cells (c.av p) true :: (G ++ AObj.cells [.slice pid poff c.hs.length 1 pex] true :: AObj.cells [.int .i64 (k : Int)] true :: T)) l c p (hp.app _) (ht.app _) hv hc _ L (hb0 _) hokp k hk r h0 h1 H.length (H.length + (G.length + 1 + 1)) (H.length + (G.length + 1)) (by simp [Cv.av]) (by simp [Nat.add_assoc]) (by simp [Nat.add_assoc]) hb
  simp only [Cv.av] at kc
  rcases hm with ⟨rfl, hr, hg, hbad⟩ | ⟨rfl, rfl, hbad⟩
  · have h3 : m ≤ 60 := hr.2
    repeat (first|(with_reducible first|apply X1|apply X2|apply X5|apply X8)|((with_reducible apply e_end);(simp;exact Red.rfl))|((with_reducible apply O1);rfl;(simp (disch:=omega) [hr.1, h3];exact Red.rfl);exact Red.rfl;(focus (first|(simp;done)|omega|(simp;omega))))|((with_reducible apply Z7);(simp (disch:=omega) [hr.1, h3];exact Red.rfl))|((with_reducible apply W3);(simp (disch:=omega) [hr.1, h3];exact Red.rfl)))
    (with_reducible apply e_callV); (simp; exact Red.rfl); (simp; exact Red.rfl); exact kc m hr.1 h3 [] (b := false) (by simp [hg])
    rintro _ _ ⟨rfl, rfl⟩
    by_cases h60 : m = 60
    · repeat (first|(with_reducible first|apply X3|apply X8)|((with_reducible apply e_end);(simp;exact Red.rfl))|((with_reducible apply O1);rfl;(simp (disch:=omega) [h60];exact Red.rfl);exact Red.rfl;(focus (first|(simp;done)|omega|(simp;omega))))|((with_reducible apply Z7);(simp (disch:=omega) [h60];exact Red.rfl))|((with_reducible apply Z2);(simp (disch:=omega) [h60];exact Red.rfl)))
      exact q_stay (.inr rfl) (by simp; exact Red.rfl) rfl
    · repeat (first|((with_reducible apply O1);rfl;(simp (disch:=omega) [h60];exact Red.rfl);exact Red.rfl;(focus (first|(simp;done)|omega|(simp;omega))))|((with_reducible apply Z7);(simp (disch:=omega) [h60];exact Red.rfl)))
      (with_reducible apply e_callV); (simp; exact Red.rfl); (simp; exact Red.rfl); exact kc (m + 1) (by omega) (by omega) [] (b := true) (by simp only [true_iff]; exact hbad _ (by omega) (by omega))
      rintro _ _ ⟨rfl, rfl⟩
      repeat (first|(with_reducible first|apply X3|apply X8)|((with_reducible apply e_end);(simp;exact Red.rfl))|((with_reducible apply O1);rfl;(simp (disch:=omega);exact Red.rfl);exact Red.rfl;(focus (first|(simp;done)|omega|(simp;omega))))|((with_reducible apply Z7);(simp (disch:=omega);exact Red.rfl)))
      exact q_stay (.inr rfl) (by simp; exact Red.rfl) rfl
  · repeat (first|(with_reducible first|apply X1|apply X2|apply X8)|((with_reducible apply e_end);(simp;exact Red.rfl))|((with_reducible apply O1);rfl;(simp (disch:=omega);exact Red.rfl);exact Red.rfl;(focus (first|(simp;done)|omega|(simp;omega))))|((with_reducible first|apply Z7|apply Z9);(simp (disch:=omega);exact Red.rfl)))
    (with_reducible apply e_callV); (simp; exact Red.rfl); (simp; exact Red.rfl); exact kc 0 (by omega) (by omega) [] (b := true) (by simp only [true_iff]; exact hbad 0 (by omega) (by omega))
    rintro _ _ ⟨rfl, rfl⟩
    repeat (first|(with_reducible first|apply X3|apply X8|apply X9)|((with_reducible apply e_end);(simp;exact Red.rfl))|((with_reducible apply O1);rfl;(simp (disch:=omega);exact Red.rfl);exact Red.rfl;(focus (first|(simp;done)|omega|(simp;omega)))))
    exact q_stay (.inr rfl) (by simp; exact Red.rfl) rfl
end Go.Proofs
