/- The law IceWater: its contract, whole. -/
import Derived.Test.YtfklkmnogppfoaaGreatWB
import Derived.Test.YtfklkmnogppfoaaGreatRA
import Derived.Test.YtfklkmnogppfoaaGreatGH
import Derived.Test.YtfklkmnogppfoaaGreatRunIceAlive
namespace Go.Proofs
open Go.Abs
attribute [local simp] AOp.den AOpd.ev lk cellsOf rd_new rd_new0 rd_zero rd_succ wr_new wr_new0 wr_zero wr_succ splice fillA binA scal sliceCells List.length_append argsT AV.sc scL AObj.sc resV getAll AR.get AOp.slots opdSlots opdsSlots partSlots eqAt at_new0 at_new set_new0 set_new wrap64
set_option linter.unusedSimpArgs false
set_option linter.unusedVariables false
theorem c_span2 (H : Heap) (a b : Int) : ACalls Tryz.prog F.law02_span [.int .i64 a, .int .i64 b] H (fun v h' => v = .agg [.int .i64 a, .int .i64 b] ∧ h' = H) := by
  refine acalls_of ok_law02_span rfl fun hcl => ?_
  unfold ac_law02_span
  simp only [argsT, Nat.zero_add, Nat.reduceAdd]
  repeat (first|(with_reducible first|apply X1|apply X2|apply X3|apply X8)|((with_reducible apply e_end);(simp;exact Red.rfl))|((first|((with_reducible apply O1);rfl)|((with_reducible apply O2);rfl));(simp (disch:=omega);exact Red.rfl);exact Red.rfl;(focus (first|(simp;done)|omega|(simp;omega)))))
  refine q_drop (.inr rfl) (by simp; exact Red.rfl) (by simp) ⟨rfl, rfl⟩
theorem c_aliveI (H : Heap) : ACalls Tryz.prog F.law02_alive [] H (fun v h => v = .bool true ∧ h = H) := Tryz.true4 H
theorem c_Drop1 (H : Heap) (l : List Str) (id off : Nat) (ex : Bool) (a : Nat) (hs : rd H id off (l.length * 9) = some (l.flatMap Str.av)) (hv : validL l) (ha : a < l.length) :
    ACalls Tryz.prog F.track_Drop [.agg [.slice id off l.length 9 ex], .int .i64 a, .int .i64 ((a : Int) + 1)] H
      (fun v h' => v = .tuple [.agg [.int .i64 (strAt l a).lLo, .int .i64 (strAt l a).lHi], .agg [.int .i64 (strAt l a).fLo, .int .i64 (strAt l a).fHi], .int .i64 0] ∧ h' = H) := by
  have := c_Drop H l id off ex a (a + 1) hs hv (by omega) (by omega)
  simp only [Nat.add_sub_cancel_left, sumF, Nat.add_zero, Int.zero_add] at this
  exact this
theorem c_iWaterV (H : Heap) (l : List Str) (c : Cv) (p : Plc) (hp : CvAt H c p) (ht : TrAt H l p) (hv : validL l) (hc : c.ok l.length) (pl : AV) (L : Nat → List Int) (hpl : PlAt H pl c.hs.length L) (hL : okPl c L) :
    ACalls Tryz.prog F.ice_Water [.agg (c.av p), pl] H (fun v h' => v = .tuple [.agg [.int .i64 (waP c.rate (fun s => (strAt l s).lLo) L c.hs.length), .int .i64 (waP c.rate (fun s => (strAt l s).lHi) L c.hs.length)], .int .i64 0] ∧ h' = H) := by
  have h12 := hv.1
  have hlen := hc.len
  have h8 := hc.hours
  refine (c_iWaterG H l c p hp ht (by omega) (by omega) (by omega) pl _ L hpl (okPl_len hc hL) (by omega)).mono ?_
  rintro _ _ ⟨rfl, lo, hi, e, rfl, ⟨h1, h2, _⟩ | ⟨_, _, _, rfl, rfl, rfl⟩⟩
  · rcases h1 with h1 | h1 | h1
    · exact absurd h1.2.2.2 h2
    · exact absurd ⟨hv, hc⟩ h1.1
    · exact absurd ⟨rfl, hL⟩ h1.2.2.1
  · exact ⟨rfl, rfl⟩
theorem c_agreedE (H : Heap) (l : List Str) (id off : Nat) (ex : Bool) (ms : List Ms) (mid moff : Nat) (mex : Bool) (hs : rd H id off (l.length * 9) = some (l.flatMap Str.av)) (hv : validL l) (hm : rd H mid moff (ms.length * 5) = some (ms.flatMap Ms.av)) (hn : (ms.length : Int) ≤ 9223372036854775807) (hok : ¬ okMs l.length ms) :
    ACalls Tryz.prog F.track_Narrow [.agg [.slice id off l.length 9 ex], .slice mid moff ms.length 5 mex] H (fun v h' => v = .tuple [.agg [.nilslice], .int .i64 11] ∧ h' = H) := by
  have hm2 : SlM H (.slice mid moff ms.length 5 mex) ms := .inr ⟨mid, moff, mex, rfl, hm⟩
  have h12 := hv.1
  refine acalls_of ok_track_Narrow rfl fun hcl => ?_
  unfold ac_track_Narrow
  simp only [argsT, Nat.zero_add, Nat.reduceAdd]
  have hid := rd_lt hs
  repeat (first|(with_reducible first|apply X1|apply X2|apply X8)|((with_reducible apply e_end);(simp;exact Red.rfl))|((with_reducible apply O1);rfl;(simp (disch:=omega);exact Red.rfl);exact Red.rfl;(focus (first|(simp;done)|omega|(simp;omega)))))
  (with_reducible apply e_call); (simp; exact Red.rfl); exact c_Check _ l id off ex (by rw [rd_old _ hid]; exact hs) (by omega)
  rintro _ _ ⟨rfl, e, rfl, he⟩
  obtain rfl : e = 0 := by
    rcases he with h | h
    · exact h.2
    · exact absurd hv h.1
  repeat (first|(with_reducible first|apply X1|apply X2|apply X5|apply X8)|((with_reducible apply e_end);(simp;exact Red.rfl))|((with_reducible apply O1);rfl;(simp (disch:=omega);exact Red.rfl);exact Red.rfl;(focus (first|(simp;done)|omega|(simp;omega))))|((with_reducible apply W3);(simp (disch:=omega);exact Red.rfl)))
  (with_reducible apply e_call); (simp; exact Red.rfl); exact c_agreed _ l id off ex ms _ (by rw [rd_old _ hid]; exact hs) hv (hm2.app _) hn
  rintro _ _ ⟨rfl, b, rfl, hb⟩
  obtain rfl : b = false := by
    cases b with
    | false => rfl
    | true => exact absurd (hb.1 rfl) hok
  repeat (first|(with_reducible first|apply X1|apply X2|apply X3|apply X8|apply X9)|((with_reducible apply e_end);(simp;exact Red.rfl))|((first|((with_reducible apply O1);rfl)|((with_reducible apply O2);rfl));(simp (disch:=omega);exact Red.rfl);exact Red.rfl;(focus (first|(simp;done)|omega|(simp;omega))))|((with_reducible apply Z9);(simp (disch:=omega);exact Red.rfl)))
  refine q_drop (.inr rfl) (by simp; exact Red.rfl) (by simp) ⟨rfl, rfl⟩
theorem flat_len9 : ∀ l : List Str, (l.flatMap Str.av).length = l.length * 9
  | [] => rfl
  | s :: l => by rw [List.flatMap_cons, List.length_append, flat_len9 l, List.length_cons, Str.av_length, Nat.add_mul]; omega
set_option maxHeartbeats 4000000 in
theorem c_lawIW (H : Heap) (l : List Str) (c : Cv) (p : Plc) (us : List Int) (ms : List Ms) (uid uoff mid moff : Nat) (uex mex : Bool) (hp : CvAt H c p) (ht : TrAt H l p) (hn : (l.length : Int) ≤ 9223372036854775807) (hn1 : (c.bs.length : Int) ≤ 9223372036854775807) (hn2 : (c.hs.length : Int) ≤ 9223372036854775807)
    (hb : rd H uid uoff us.length = some (us.map (.int .u32))) (hm : rd H mid moff (ms.length * 5) = some (ms.flatMap Ms.av)) (hu : ∀ u ∈ us, 0 ≤ u ∧ u ≤ 4294967295) (hun : (us.length : Int) ≤ 9223372036854775807) (hmn : (ms.length : Int) ≤ 9223372036854775807) (hkk : ∀ i (h : i < ms.length), 0 ≤ ms[i].k ∧ ms[i].k ≤ 255) :
    ACalls Tryz.prog F.law02_IceWater [.agg (c.av p), .slice uid uoff us.length 1 uex, .slice mid moff ms.length 5 mex] H (fun v _ => v = .bool true) := by
  have hp1 := hp.t
  have hp2 := rd_lt hp.b
  have hp3 := rd_lt hp.h
  have huid := rd_lt hb
  have hmid := rd_lt hm
  have htn := ht.n
  have kr := fun G => c_ready2 (H ++ G) l c p (hp.app G) (ht.app G) hn hn1 hn2
  have kd := fun G hc hv => c_drawn2 (H ++ G) l c p (hp.app G) hc hv us 0 uid uoff uex (by rw [rd_old _ huid]; exact hb) hu hun (by omega)
  simp only [Cv.av, htn] at kr kd
  refine acalls_of ok_law02_IceWater rfl fun hcl => ?_
  unfold ac_law02_IceWater
  simp only [argsT, Nat.zero_add, Nat.reduceAdd]
  simp only [Cv.av, htn]
  repeat (first|(with_reducible first|apply X1|apply X2|apply X8)|((with_reducible apply e_end);(simp;exact Red.rfl))|((with_reducible apply O1);rfl;(simp (disch:=omega);exact Red.rfl);exact Red.rfl;(focus (first|(simp;done)|omega|(simp;omega)))))
  (with_reducible apply e_call); (simp; exact Red.rfl); exact c_aliveI _
  rintro _ _ ⟨rfl, rfl⟩
  repeat (first|(with_reducible first|apply X1|apply X2|apply X5|apply X8)|((with_reducible apply e_end);(simp;exact Red.rfl))|((with_reducible apply O1);rfl;(simp (disch:=omega);exact Red.rfl);exact Red.rfl;(focus (first|(simp;done)|omega|(simp;omega))))|((with_reducible apply W3);(simp (disch:=omega);exact Red.rfl)))
  (with_reducible apply e_call); (simp; exact Red.rfl); exact kr _
  rintro _ _ ⟨rfl, b, rfl, hrd⟩
  cases b with
  | false =>
    repeat (first|(with_reducible first|apply X1|apply X2|apply X3|apply X8|apply X9)|((with_reducible apply e_end);(simp;exact Red.rfl))|((with_reducible apply O1);rfl;(simp (disch:=omega);exact Red.rfl);exact Red.rfl;(focus (first|(simp;done)|omega|(simp;omega))))|((with_reducible apply Z9);(simp (disch:=omega);exact Red.rfl))|((with_reducible apply Z2);(simp (disch:=omega);exact Red.rfl)))
    exact q_stay (.inr rfl) (by simp; exact Red.rfl) rfl
  | true =>
  obtain ⟨hv, hc⟩ := hrd.1 rfl
  have h12 := hv.1
  have hlen := hc.len
  have h8 := hc.hours
  by_cases h20 : 20 < ms.length
  · have h202 : 20 < (ms.length : Int) := by omega
    repeat (first|(with_reducible first|apply X1|apply X2|apply X3|apply X8|apply X9)|((with_reducible apply e_end);(simp;exact Red.rfl))|((with_reducible apply O1);rfl;(simp (disch:=omega) [h20, h202];exact Red.rfl);exact Red.rfl;(focus (first|(simp;done)|omega|(simp;omega))))|((with_reducible first|apply Z7|apply Z9);(simp (disch:=omega) [h20, h202];exact Red.rfl)))
    exact q_stay (.inr rfl) (by simp; exact Red.rfl) rfl
  have h202 : ¬ 20 < (ms.length : Int) := by omega
  repeat (first|(with_reducible first|apply X1|apply X2|apply X5|apply X8)|((with_reducible apply e_end);(simp;exact Red.rfl))|((with_reducible apply O1);rfl;(simp (disch:=omega) [h20, h202];exact Red.rfl);exact Red.rfl;(focus (first|(simp;done)|omega|(simp;omega))))|((with_reducible apply Z7);(simp (disch:=omega) [h20, h202];exact Red.rfl))|((with_reducible apply W3);(simp (disch:=omega) [h20, h202];exact Red.rfl)))
  (with_reducible apply e_call); (simp; exact Red.rfl); exact kd _ hc hv
  rintro pl _ ⟨G, rfl, hpl⟩
  have hokp := plnL_okPl hc us 0
  generalize hL : (fun h => plnL c us 0 h c.bs.length) = L at *
  obtain ⟨pid, poff, pex, rfl, hpid, hrow⟩ := hpl.get
  repeat (first|(with_reducible first|apply X1|apply X2|apply X8)|((with_reducible apply e_end);(simp;exact Red.rfl))|((with_reducible apply O1);rfl;(simp (disch:=omega);exact Red.rfl);exact Red.rfl;(focus (first|(simp;done)|omega|(simp;omega)))))
  refine gen_ops (fun t' X => t' = [(40, .slice pid poff c.hs.length 1 pex), (39, .agg (c.av p)), (1, .slice uid uoff us.length 1 uex), (2, .slice mid moff ms.length 5 mex), (3, .ptr H.length 0), (7, .bool true), (8, .slice pid poff c.hs.length 1 pex)] ∧ H.length < X.length ∧
        CvAt X c p ∧ TrAt X l p ∧ PlAt X (.slice pid poff c.hs.length 1 pex) c.hs.length L ∧ rd X H.length 0 10 = some (c.av p) ∧ rd X uid uoff us.length = some (us.map (.int .u32)) ∧ rd X mid moff (ms.length * 5) = some (ms.flatMap Ms.av)) ?_ ?_
  · have e : ∀ o : AObj, H ++ o :: G = (H ++ [o]) ++ G := fun o => by simp
    refine ⟨by simp [Cv.av, htn], by simp, hp.app _, ht.app _, by rw [e]; exact hpl, by simp [Cv.av, htn], ?_, ?_⟩
    · rw [rd_old _ huid]; exact hb
    · rw [rd_old _ hmid]; exact hm
  clear hrow hpl hp ht hb kr kd hp1 hp2 hp3 huid hmid hm hpid
  clear G
  rintro _ X ⟨rfl, hbx, hp, ht, hpl, hbX, hb, hm⟩
  have huid := rd_lt hb
  have hmid := rd_lt hm
  have hp1 := hp.t
  have hp2 := rd_lt hp.b
  have hp3 := rd_lt hp.h
  have hpid : pid < X.length := by obtain ⟨_, _, _, h, h2, _⟩ := hpl.get; cases h; exact h2
  have hru := hc.rul
  simp only [Cv.ruled] at hru
  have kW := c_iWaterV X l c p hp ht hv hc _ L hpl hokp
  have kC := fun G => c_count (X ++ G) l c p (hp.app G) hc hv _ L (hpl.app G) hokp
  have kD := fun G a ha => c_Drop1 (X ++ G) l p.tid p.toff p.tex a (ht.app G).t hv ha
  have cc := fun G i h0 h1 => c_choose2 (X ++ G) us uid uoff uex i (by rw [rd_old _ huid]; exact hb) hu h0 h1 hun
  have cge := chooseF_ge hu
  rw [wa_cP hokp (Nat.le_refl _), wa_cP hokp (Nat.le_refl _)] at kW
  have hcb := fun s => cP_bd hc hokp s (h := c.hs.length) (Nat.le_refl _)
  have hlb : ∀ s, s < c.bs.length → (1 ≤ (strAt l s).lLo ∧ (strAt l s).lLo ≤ (strAt l s).lHi ∧ (strAt l s).lHi ≤ 30000) := fun s hs => by
    have := (hv.2 s (by omega)).2.1
    rw [← strAt_eq (by omega)] at this
    simp only [Str.ok] at this
    omega
  generalize hcn : cP L c.hs.length = cn at *
  have a7 : rd X H.length 7 1 = some [.int .i64 c.rate] := by have := rd_sub' hbX 7 1 (by omega); simpa [Cv.av] using this
  have a0 : rd X H.length 0 1 = some [.slice p.tid p.toff l.length 9 p.tex] := by have := rd_sub' hbX 0 1 (by omega); simpa [Cv.av, htn] using this
  simp only [Cv.av, htn] at kW kC hbX
  have hcb2 : ∀ s, 0 ≤ cn s ∧ cn s ≤ 96 := fun s => by have := hcb s; omega
  have tb1 : ∀ s, s < c.bs.length → 0 ≤ cn s * c.rate * (strAt l s).lLo ∧ cn s * c.rate * (strAt l s).lLo ≤ 288000000 := fun s hs => (term_bd (hcb2 s).1 (hcb2 s).2 hru.2.2.1.1 hru.2.2.1.2 (by have := hlb s hs; omega) (by have := hlb s hs; omega)).2
  have tb2 : ∀ s, s < c.bs.length → 0 ≤ cn s * c.rate * (strAt l s).lHi ∧ cn s * c.rate * (strAt l s).lHi ≤ 288000000 := fun s hs => (term_bd (hcb2 s).1 (hcb2 s).2 hru.2.2.1.1 hru.2.2.1.2 (by have := hlb s hs; omega) (by have := hlb s hs; omega)).2
  have tm : ∀ s, s < c.bs.length → someF (strAt l s).lLo (strAt l s).lHi (chooseF us (50 + s)) ≤ (strAt l s).lHi ∧ (strAt l s).lLo ≤ someF (strAt l s).lLo (strAt l s).lHi (chooseF us (50 + s)) := fun s hs => by
    have := someF_in (b := chooseF us (50 + s)) (hlb s hs).2.1
    omega
  have tb3 : ∀ s, s < c.bs.length → 0 ≤ cn s * c.rate * someF (strAt l s).lLo (strAt l s).lHi (chooseF us (50 + s)) ∧ cn s * c.rate * someF (strAt l s).lLo (strAt l s).lHi (chooseF us (50 + s)) ≤ 288000000 := fun s hs => (term_bd (hcb2 s).1 (hcb2 s).2 hru.2.2.1.1 hru.2.2.1.2 (by have := hlb s hs; have := tm s hs; omega) (by have := hlb s hs; have := tm s hs; omega)).2
  have nr : ∀ s, 0 ≤ cn s * c.rate ∧ cn s * c.rate ≤ 9600 := fun s => mul_bd (A := 96) (B := 100) (hcb2 s).1 (hcb2 s).2 hru.2.2.1.1 hru.2.2.1.2
  have s1 := fun n (hn : n ≤ c.bs.length) => smF_bd (n := n) fun s hs => tb1 s (by omega)
  have s2 := fun n (hn : n ≤ c.bs.length) => smF_bd (n := n) fun s hs => tb2 s (by omega)
  have s3 := fun n (hn : n ≤ c.bs.length) => smF_bd (n := n) fun s hs => tb3 s (by omega)
  have le1 : smF (fun s => cn s * c.rate * (strAt l s).lLo) c.bs.length ≤ smF (fun s => cn s * c.rate * someF (strAt l s).lLo (strAt l s).lHi (chooseF us (50 + s))) c.bs.length := smF_le fun s hs => Int.mul_le_mul_of_nonneg_left (tm s hs).2 (nr s).1
  have le2 : smF (fun s => cn s * c.rate * someF (strAt l s).lLo (strAt l s).lHi (chooseF us (50 + s))) c.bs.length ≤ smF (fun s => cn s * c.rate * (strAt l s).lHi) c.bs.length := smF_le fun s hs => Int.mul_le_mul_of_nonneg_left (tm s hs).1 (nr s).1
  simp only [Cv.av, htn]
  (with_reducible apply e_call); (simp; exact Red.rfl); exact kW
  rintro _ hqh ⟨rfl, hqe⟩
  rw [hqe]; clear hqe hqh
  repeat (first|(with_reducible first|apply X1|apply X2|apply X8)|((with_reducible apply e_end);(simp;exact Red.rfl))|((first|((with_reducible apply O1);rfl)|((with_reducible apply O2);rfl));(simp (disch:=omega) [rd_old _ hbx, hbX];exact Red.rfl);exact Red.rfl;(focus (first|(simp;done)|omega|(simp;omega)))))
  (with_reducible apply e_call); (simp; exact Red.rfl); exact kC _
  rintro _ _ ⟨rfl, rfl⟩
  repeat (first|(with_reducible first|apply X6|apply X8)|((with_reducible apply e_end);(simp;exact Red.rfl))|((with_reducible apply O1);rfl;(simp (disch:=omega);exact Red.rfl);exact Red.rfl;(focus (first|(simp;done)|omega|(simp;omega)))))
  have wlo := s1 _ (Nat.le_refl _)
  have whi := s2 _ (Nat.le_refl _)
  generalize hWL : smF (fun s => cn s * c.rate * (strAt l s).lLo) c.bs.length = WL at *
  generalize hWH : smF (fun s => cn s * c.rate * (strAt l s).lHi) c.bs.length = WH at *
  refine e_loop (ι := { x : Nat × Heap // x.1 ≤ c.bs.length })
    (fun x => [(1, .slice uid uoff us.length 1 uex), (2, .slice mid moff ms.length 5 mex), (3, .ptr H.length 0), (7, .bool true), (8, .slice pid poff c.hs.length 1 pex), (9, .ptr X.length 0), (10, .int .i64 0), (11, .ptr (X.length + 1) 0), (12, .int .i64 (smF (fun s => cn s * c.rate * someF (strAt l s).lLo (strAt l s).lHi (chooseF us (50 + s))) x.1.1)), (46, .slice (X.length + 2) 0 c.bs.length 1 true), (47, .int .i64 c.bs.length), (48, .int .i64 x.1.1)])
    (fun x => X ++ .cells [.int .i64 WL, .int .i64 WH] true :: .cells [.int .i64 (smF (fun s => cn s * c.rate * (strAt l s).lLo) x.1.1), .int .i64 (smF (fun s => cn s * c.rate * (strAt l s).lHi) x.1.1)] true :: .cells (avL cn c.bs.length) true :: x.1.2) (fun x => c.bs.length - x.1.1) ⟨(0, []), by simp⟩ ?_ ?_
  · exact .inl (by simp [smF])
  · rintro ⟨⟨i, G⟩, hi⟩
    dsimp only at hi ⊢
    by_cases hlt : i < c.bs.length
    · have hlt2 : (i : Int) < c.bs.length := by omega
      have hl1 : i + 1 ≤ c.bs.length := hlt
      have h1 := avL_one (f := cn) hlt
      have x1 := s1 i hi
      have x2 := s2 i hi
      have x3 := s3 i hi
      have y1 := tb1 i hlt
      have y2 := tb2 i hlt
      have y3 := tb3 i hlt
      have z1 := hlb i hlt
      have z2 := nr i
      repeat (first|(with_reducible first|apply X1|apply X2|apply X5|apply X6|apply X8)|((with_reducible apply e_end);(simp;exact Red.rfl))|((with_reducible apply O1);rfl;(simp (disch:=omega) [hlt, hlt2, avL_length, hl1, h1];exact Red.rfl);exact Red.rfl;(focus (first|(simp;done)|omega|(simp;omega))))|((with_reducible apply Z9);(simp (disch:=omega) [hlt, hlt2, avL_length, hl1, h1];exact Red.rfl)))
      repeat ((with_reducible apply O1);rfl;(simp (disch:=omega) [rd_old _ hbx, a0];exact Red.rfl);exact Red.rfl;(focus (first|(simp;done)|omega|(simp;omega))))
      (with_reducible apply e_call); (simp; exact Red.rfl); exact kD _ i (by omega)
      rintro _ _ ⟨rfl, rfl⟩
      repeat (first|(with_reducible first|apply X1|apply X2|apply X5|apply X8)|((with_reducible apply e_end);(simp;exact Red.rfl))|((first|((with_reducible apply O1);rfl)|((with_reducible apply O2);rfl));(simp (disch:=omega) [rd_old _ hbx, a7];exact Red.rfl);exact Red.rfl;(focus (first|(simp;done)|omega|(simp;omega))))|((with_reducible apply W3);(simp (disch:=omega) [rd_old _ hbx, a7];exact Red.rfl)))
      (with_reducible apply e_call); (simp; exact Red.rfl); exact c_span2 _ _ _
      rintro _ _ ⟨rfl, rfl⟩
      repeat (first|(with_reducible first|apply X8|apply Y9)|((with_reducible apply e_end);(simp;exact Red.rfl))|((first|((with_reducible apply O2);rfl)|((with_reducible apply P1);rfl)|((with_reducible apply P2);rfl));(simp (disch:=omega) [rd_old _ hbx, a7];exact Red.rfl);exact Red.rfl;(focus (first|(simp;done)|omega|(simp;omega)))))
      (with_reducible apply d_call); (simp; exact Red.rfl); exact cc _ _ (by omega) (by omega); (focus (first | (simp; done) | (simp; omega)))
      skip
      (with_reducible apply d_call); (simp; exact Red.rfl); exact c_of2 _ _ _ _ (by omega) (by omega) (by omega) (cge _).1 (cge _).2; (focus (first | (simp; done) | (simp; omega)))
      repeat (first|(with_reducible first|apply X2|apply X8|apply Y2)|((with_reducible first|apply e_end|apply d_end);(simp;exact Red.rfl))|((first|((with_reducible apply O1);rfl)|((with_reducible apply P1);rfl));(simp (disch:=omega);exact Red.rfl);exact Red.rfl;(focus (first|(simp;done)|omega|(simp;omega)))))
      exact q_again ⟨(i + 1, G ++ [.cells [.int .i64 (strAt l i).lLo, .int .i64 (strAt l i).lHi] true, .cells [.int .i64 (strAt l i).fLo, .int .i64 (strAt l i).fHi] true]), by dsimp only; omega⟩ (by dsimp only; omega) (.inl (by simp [smF]))
    · have hlt2 : ¬ (i : Int) < c.bs.length := by omega
      obtain rfl : i = c.bs.length := by omega
      rw [hWL, hWH]
      have n1 : ¬ smF (fun s => cn s * c.rate * someF (strAt l s).lLo (strAt l s).lHi (chooseF us (50 + s))) c.bs.length < WL := by omega
      have n2 : ¬ WH < smF (fun s => cn s * c.rate * someF (strAt l s).lLo (strAt l s).lHi (chooseF us (50 + s))) c.bs.length := by omega
      repeat (first|(with_reducible first|apply X1|apply X2|apply X4|apply X5|apply X8|apply Y1|apply Y4|apply Y6)|((with_reducible apply e_end);(simp;exact Red.rfl))|((with_reducible apply O1);rfl;(simp (disch:=omega) [hlt2, n1, n2, rd_old _ hbx, a0];exact Red.rfl);exact Red.rfl;(focus (first|(simp;done)|omega|(simp;omega))))|((with_reducible apply Z7);(simp (disch:=omega) [hlt2, n1, n2, rd_old _ hbx, a0];exact Red.rfl))|((with_reducible apply W3);(simp (disch:=omega) [hlt2, n1, n2, rd_old _ hbx, a0];exact Red.rfl)))
      by_cases hok : okMs l.length ms
      rotate_left
      · (with_reducible apply e_call); (simp; exact Red.rfl); exact c_agreedE _ l p.tid p.toff p.tex ms mid moff mex (ht.app _).t hv (by rw [rd_old _ hmid]; exact hm) hmn hok
        rintro _ _ ⟨rfl, rfl⟩
        repeat (first|(with_reducible first|apply X1|apply X2|apply X3|apply X8|apply X9)|((with_reducible apply e_end);(simp;exact Red.rfl))|((first|((with_reducible apply O1);rfl)|((with_reducible apply O2);rfl));(simp (disch:=omega);exact Red.rfl);exact Red.rfl;(focus (first|(simp;done)|omega|(simp;omega))))|((with_reducible apply Z9);(simp (disch:=omega);exact Red.rfl)))
        exact q_stay (.inr rfl) (by simp; exact Red.rfl) rfl
      (with_reducible apply e_call); (simp; exact Red.rfl); exact c_NarrowD _ l p.tid p.toff p.tex ms _ (ht.app _).t hv (.inr ⟨mid, moff, mex, rfl, by rw [rd_old _ hmid]; exact hm⟩) hmn hok
      rintro _ _ (⟨hg, rfl, rfl⟩ | ⟨hg, rfl, rfl⟩)
      rotate_left
      · repeat (first|(with_reducible first|apply X1|apply X2|apply X3|apply X8|apply X9)|((with_reducible apply e_end);(simp;exact Red.rfl))|((first|((with_reducible apply O1);rfl)|((with_reducible apply O2);rfl));(simp (disch:=omega);exact Red.rfl);exact Red.rfl;(focus (first|(simp;done)|omega|(simp;omega))))|((with_reducible apply Z9);(simp (disch:=omega);exact Red.rfl)))
        exact q_stay (.inr rfl) (by simp; exact Red.rfl) rfl
      have hnw := lef_nrw hok.2 hg.1 hg.2
      have hvl := lefS_valid hv hok.2 hg.1 hg.2
      repeat (first|(with_reducible first|apply X1|apply X2|apply X5|apply X8)|((with_reducible apply e_end);(simp;exact Red.rfl))|((first|((with_reducible apply O1);rfl)|((with_reducible apply O2);rfl));(simp (disch:=omega);exact Red.rfl);exact Red.rfl;(focus (first|(simp;done)|omega|(simp;omega))))|((with_reducible apply W3);(simp (disch:=omega);exact Red.rfl)))
      refine gen_ops (fun t' Z => ∃ q nid b18, t' = [(3, .ptr H.length 0), (7, .bool true), (8, .slice pid poff c.hs.length 1 pex), (9, .ptr q 0), (18, .ptr b18 0), (127, .bool false)] ∧ H.length < Z.length ∧
        CvAt Z c p ∧ TrAt Z l p ∧ PlAt Z (.slice pid poff c.hs.length 1 pex) c.hs.length L ∧ rd Z H.length 0 10 = some (c.av p) ∧ rd Z q 0 2 = some [.int .i64 WL, .int .i64 WH] ∧ rd Z b18 0 1 = some [.slice nid 0 l.length 9 false] ∧ rd Z nid 0 (l.length * 9) = some ((lefL2 l ms).flatMap Str.av)) ?_ ?_
      · refine ⟨X.length, X.length + (G.length + 1 + 1 + 1), X.length + (G.length + 1 + 1 + 1 + 1), rfl, by simp; omega, hp.app _, ht.app _, hpl.app _, ?_, by simp, by simp, ?_⟩
        · rw [rd_old _ hbx]; simpa [Cv.av, htn] using hbX
        · have e9 : (avR (fun j => (lefS l ms j).av) l.length).length = l.length * 9 := by rw [← listS_av, flat_len9]; simp [listS_length]
          simp [lefL2, listS_av, e9]
          exact List.take_of_length_le (by omega)
      have hl2 : (lefL2 l ms).length = l.length := lefL2_len l ms
      have hvl2 : validL (lefL2 l ms) := hvl
      have hle1 : WL ≤ smF (fun s => cn s * c.rate * (strAt (lefL2 l ms) s).lLo) c.bs.length := by
        rw [← hWL]
        exact smF_le fun s hs => Int.mul_le_mul_of_nonneg_left (by rw [lefL2_at (by omega)]; exact (hnw s (by omega)).1) (nr s).1
      have hle2 : smF (fun s => cn s * c.rate * (strAt (lefL2 l ms) s).lHi) c.bs.length ≤ WH := by
        rw [← hWH]
        exact smF_le fun s hs => Int.mul_le_mul_of_nonneg_left (by rw [lefL2_at (by omega)]; exact (hnw s (by omega)).2.1) (nr s).1
      clear kW kC kD cc n1 n2 hp ht hpl hbX hb hm huid hmid hp1 hp2 hp3 hpid a7 a0 hbx le1 le2
      rintro _ Z ⟨q, nid, b18, rfl, hbx, hp, ht, hpl, hbX, hq, hb18, hnid⟩
      have kt := c_r2Twin Z l c p hp ht (by omega) (by omega) (by omega)
      simp only [Cv.av, twP, htn] at kt hbX
      have hqi := rd_lt hq
      have hbi := rd_lt hb18
      have hni := rd_lt hnid
      repeat ((with_reducible apply O1);rfl;(simp (disch:=omega) [hbX];exact Red.rfl);exact Red.rfl;(focus (first|(simp;done)|omega|(simp;omega))))
      (with_reducible apply e_call); (simp; exact Red.rfl); exact kt
      rintro _ hqh ⟨rfl, hqe⟩
      rw [hqe]; clear hqe hqh
      repeat (first|(with_reducible first|apply X1|apply X2|apply X8)|((with_reducible apply e_end);(simp;exact Red.rfl))|((first|((with_reducible apply O1);rfl)|((with_reducible apply O2);rfl));(simp (disch:=omega) [rd_old _ hbi, hb18];exact Red.rfl);exact Red.rfl;(focus (first|(simp;done)|omega|(simp;omega)))))
      have e1 : (c.bs.flatMap Bd.av).length = c.bs.length * 3 := by
        have := hp.b
        have : ∀ l : List Bd, (l.flatMap Bd.av).length = l.length * 3 := fun l => by
          induction l with
          | nil => rfl
          | cons s l ih => rw [List.flatMap_cons, List.length_append, ih, List.length_cons, Bd.av_length, Nat.add_mul]; omega
        exact this _
      have e2 : (c.hs.flatMap Hr.av).length = c.hs.length * 5 := by
        have : ∀ l : List Hr, (l.flatMap Hr.av).length = l.length * 5 := fun l => by
          induction l with
          | nil => rfl
          | cons s l ih => rw [List.flatMap_cons, List.length_append, ih, List.length_cons, Hr.av_length, Nat.add_mul]; omega
        exact this _
      have kW2 := fun o1 o4 => c_iWaterV (Z ++ [o1, .cells (c.bs.flatMap Bd.av) true, .cells (c.hs.flatMap Hr.av) true, o4]) (lefL2 l ms) c ⟨nid, 0, false, l.length, Z.length + 1, 0, false, Z.length + 2, 0, false⟩ ⟨by simp; omega, by simp [e1]; exact List.take_of_length_le (by omega), by simp [e2]; exact List.take_of_length_le (by omega)⟩ ⟨hl2.symm, by rw [hl2]; dsimp only; rw [rd_old _ hni]; exact hnid⟩ hvl2 (hl2 ▸ hc) (.slice pid poff c.hs.length 1 pex) L (hpl.app _) hokp
      rw [wa_cP hokp (Nat.le_refl _), wa_cP hokp (Nat.le_refl _)] at kW2
      simp only [Cv.av, hcn] at kW2
      generalize smF (fun s => cn s * c.rate * (strAt (lefL2 l ms) s).lLo) c.bs.length = VL at *
      generalize smF (fun s => cn s * c.rate * (strAt (lefL2 l ms) s).lHi) c.bs.length = VH at *
      have q0 : rd Z q 0 1 = some [.int .i64 WL] := by have := rd_sub' hq 0 1 (by omega); simpa using this
      have q1 : rd Z q 1 1 = some [.int .i64 WH] := by have := rd_sub' hq 1 1 (by omega); simpa using this
      (with_reducible apply e_call); (simp; exact Red.rfl); exact kW2 _ _
      rintro _ hqh ⟨rfl, hqe⟩
      rw [hqe]; clear hqe hqh
      repeat (first|(with_reducible first|apply X1|apply X2|apply X3|apply X8)|((with_reducible apply e_end);(simp;exact Red.rfl))|((first|((with_reducible apply O1);rfl)|((with_reducible apply O2);rfl));(simp (disch:=omega) [rd_old _ hqi, q0, q1, hle1, hle2];exact Red.rfl);exact Red.rfl;(focus (first|(simp;done)|omega|(simp;omega))))|((with_reducible apply Z7);(simp (disch:=omega) [rd_old _ hqi, q0, q1, hle1, hle2];exact Red.rfl)))
      exact q_stay (.inr rfl) (by simp; exact Red.rfl) rfl
end Go.Proofs
