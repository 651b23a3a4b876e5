/- The law IceEnds: its contract, whole. -/
import Derived.Test.YtkkcejiejlppeaaK9
namespace Go.Proofs
open Go.Abs
attribute [local simp] AOp.den AOpd.ev lk cellsOf rd_new rd_new0 rd_zero rd_succ wr_new wr_new0 wr_zero wr_succ splice fillA binA scal sliceCells List.length_append argsT AV.sc scL AObj.sc resV getAll AR.get AOp.slots opdSlots opdsSlots partSlots eqAt at_new0 at_new set_new0 set_new wrap64
set_option linter.unusedSimpArgs false
set_option linter.unusedVariables false
theorem c_span2 (H : Heap) (a b : Int) : ACalls Try.prog F.law02_span [.int .i64 a, .int .i64 b] H (fun v h' => v = .agg [.int .i64 a, .int .i64 b] ∧ h' = H) := by
  refine acalls_of ok_law02_span rfl fun hcl => ?_
  unfold ac_law02_span
  simp only [argsT, Nat.zero_add, Nat.reduceAdd]
  repeat (first|(with_reducible first|apply X1|apply X2|apply X3|apply X8)|((with_reducible apply e_end);(simp;exact Red.rfl))|((first|((with_reducible apply O1);rfl)|((with_reducible apply O2);rfl));(simp (disch:=omega);exact Red.rfl);exact Red.rfl;(focus (first|(simp;done)|omega|(simp;omega)))))
  refine q_drop (.inr rfl) (by simp; exact Red.rfl) (by simp) ⟨rfl, rfl⟩
theorem c_iLossV (H : Heap) (l : List Str) (c : Cv) (p : Plc) (hp : CvAt H c p) (ht : TrAt H l p) (hv : validL l) (hc : c.ok l.length) (s h : Nat) (hs : s < c.bs.length) (hh : h < c.hs.length) :
    ACalls Try.prog F.ice_Loss [.agg (c.av p), .int .i64 s, .int .i64 h] H (fun v h' => v = .tuple [.agg [.int .i64 (lossF c (endT false c) s h), .int .i64 (lossF c (endT true c) s h)], .int .i64 0] ∧ h' = H) := by
  have h12 := hv.1
  have hlen := hc.len
  have h8 := hc.hours
  refine (c_iLossG H l c p hp ht (by omega) (by omega) (by omega) s h).mono ?_
  rintro _ _ ⟨rfl, lo, hi, e, rfl, ⟨h1, _⟩ | ⟨_, _, h1, _⟩ | ⟨_, _, _, rfl, rfl, rfl⟩⟩
  · exact absurd ⟨hv, hc⟩ h1
  · exact absurd ⟨⟨by omega, by omega⟩, by omega, by omega⟩ h1
  · exact ⟨by simp, rfl⟩
theorem gen_draw {P : Program} {ps : List (List Nat)} {l : List AO} {K : St → Prop} {t : List (Nat × AV)} {h : Heap} (F : List (Nat × AV) → Heap → Prop) (hF : F t h) (hn : ∀ t h, F t h → EDraw P ps l 0 [] [] K t h) : EDraw P ps l 0 [] [] K t h := hn t h hF
set_option maxHeartbeats 4000000 in
theorem c_lawIE (H : Heap) (l : List Str) (c : Cv) (p : Plc) (us : List Int) (uid uoff : Nat) (uex : Bool) (hp : CvAt H c p) (ht : TrAt H l p) (hn : (l.length : Int) ≤ 9223372036854775807) (hn1 : (c.bs.length : Int) ≤ 9223372036854775807) (hn2 : (c.hs.length : Int) ≤ 9223372036854775807)
    (hb : rd H uid uoff us.length = some (us.map (.int .u32))) (hu : ∀ u ∈ us, 0 ≤ u ∧ u ≤ 4294967295) (hun : (us.length : Int) ≤ 9223372036854775807) :
    ACalls Try.prog F.law02_IceEnds [.agg (c.av p), .slice uid uoff us.length 1 uex] H (fun v _ => v = .bool true) := by
  have hp1 := hp.t
  have hp2 := rd_lt hp.b
  have hp3 := rd_lt hp.h
  have huid := rd_lt hb
  have kr := fun G => c_ready2 (H ++ G) l c p (hp.app G) (ht.app G) hn hn1 hn2
  have kd := fun G hc hv => c_drawn2 (H ++ G) l c p (hp.app G) hc hv us 0 uid uoff uex (by rw [rd_old _ huid]; exact hb) hu hun (by omega)
  simp only [Cv.av] at kr kd
  refine acalls_of ok_law02_IceEnds rfl fun hcl => ?_
  unfold ac_law02_IceEnds
  simp only [argsT, Nat.zero_add, Nat.reduceAdd]
  simp only [Cv.av]
  repeat (first|(with_reducible first|apply X1|apply X2|apply X8)|((with_reducible apply e_end);(simp;exact Red.rfl))|((with_reducible apply O1);rfl;(simp (disch:=omega);exact Red.rfl);exact Red.rfl;(focus (first|(simp;done)|omega|(simp;omega)))))
  (with_reducible apply e_call); (simp; exact Red.rfl); exact c_aliveI _
  rintro _ _ ⟨rfl, rfl⟩
  repeat (first|(with_reducible first|apply X1|apply X2|apply X5|apply X8)|((with_reducible apply e_end);(simp;exact Red.rfl))|((with_reducible apply O1);rfl;(simp (disch:=omega);exact Red.rfl);exact Red.rfl;(focus (first|(simp;done)|omega|(simp;omega))))|((with_reducible apply W3);(simp (disch:=omega);exact Red.rfl)))
  (with_reducible apply e_call); (simp; exact Red.rfl); exact kr _
  rintro _ _ ⟨rfl, b, rfl, hrd⟩
  cases b with
  | false =>
    repeat (first|(with_reducible first|apply X1|apply X2|apply X3|apply X8|apply X9)|((with_reducible apply e_end);(simp;exact Red.rfl))|((with_reducible apply O1);rfl;(simp (disch:=omega);exact Red.rfl);exact Red.rfl;(focus (first|(simp;done)|omega|(simp;omega))))|((with_reducible apply Z9);(simp (disch:=omega);exact Red.rfl)))
    exact q_stay (.inr rfl) (by simp; exact Red.rfl) rfl
  | true =>
  obtain ⟨hv, hc⟩ := hrd.1 rfl
  have h12 := hv.1
  have hlen := hc.len
  have h8 := hc.hours
  repeat (first|(with_reducible first|apply X1|apply X2|apply X5|apply X8)|((with_reducible apply e_end);(simp;exact Red.rfl))|((with_reducible apply O1);rfl;(simp (disch:=omega);exact Red.rfl);exact Red.rfl;(focus (first|(simp;done)|omega|(simp;omega))))|((with_reducible apply W3);(simp (disch:=omega);exact Red.rfl)))
  (with_reducible apply e_call); (simp; exact Red.rfl); exact kd _ hc hv
  rintro pl _ ⟨G, rfl, hpl⟩
  have hokp := plnL_okPl hc us 0
  generalize hL : (fun h => plnL c us 0 h c.bs.length) = L at *
  obtain ⟨pid, poff, pex, rfl, hpid, hrow⟩ := hpl.get
  refine gen_ops (fun t X => t = [(30, .slice pid poff c.hs.length 1 pex), (29, .slice uid uoff us.length 1 uex), (28, .agg (c.av p)), (1, .slice uid uoff us.length 1 uex), (2, .ptr H.length 0), (5, .bool true), (26, .bool false)] ∧ H.length < X.length ∧
        CvAt X c p ∧ TrAt X l p ∧ PlAt X (.slice pid poff c.hs.length 1 pex) c.hs.length L ∧ rd X H.length 0 10 = some (c.av p) ∧ rd X uid uoff us.length = some (us.map (.int .u32))) ?_ ?_
  · refine ⟨by simp [Cv.av], by simp, ?_, ?_, hpl, by simp [Cv.av], ?_⟩
    · rw [List.append_assoc]; exact hp.app _
    · rw [List.append_assoc]; exact ht.app _
    · rw [List.append_assoc, rd_old _ huid]; exact hb
  clear hrow hpl hp ht hb kr kd hp1 hp2 hp3 huid
  rintro _ X ⟨rfl, hbx, hp, ht, hpl, hbX, hb⟩
  have huid := rd_lt hb
  have hp1 := hp.t
  have hp2 := rd_lt hp.b
  have hp3 := rd_lt hp.h
  have hpid : pid < X.length := by obtain ⟨_, _, _, h, h2, _⟩ := hpl.get; cases h; exact h2
  have kw := c_end_w X l c p hp hc hv
  have hto := endT_ok hc true
  have htb := endT_ok hc false
  have hXt : rd (X ++ tnO c (endT true c)) X.length 0 c.bs.length = some (avL (endT true c).thick c.bs.length) := by
    simp only [rd_new0, tnO, iv_tn, rd_zero, avL_length]; simp [avL_take]
  have hXm : rd (X ++ tnO c (endT true c)) (X.length + 1) 0 c.hs.length = some (avL (endT true c).melt c.hs.length) := by
    rw [rd_new]; simp only [tnO, iv_tn, rd_succ, rd_zero, avL_length]; simp [avL_take]
  have kg := c_goes (X ++ tnO c (endT true c)) l c p (hp.app _) hc hv (endT true c) hto X.length (X.length + 1) false false hXt hXm _ L (hpl.app _) hokp
  have hgo := goAt_of (X ++ tnO c (endT true c)) c.bs.length (rowF c (endT true c) (inP L)) (c.hs.length + 1) (thP c (endT true c) (inP L) c.hs.length)
  have hth := goAt_thin (X ++ tnO c (endT true c)) c.bs.length (rowF c (endT true c) (inP L)) (c.hs.length + 1) (thP c (endT true c) (inP L) c.hs.length)
  simp only [Cv.av] at kw kg hbX
  simp only [tnV] at kw
  repeat (first|(with_reducible first|apply X1|apply X8|apply Y9)|((with_reducible apply e_end);(simp;exact Red.rfl))|((first|((with_reducible apply O1);rfl)|((with_reducible apply P2);rfl));(simp (disch:=omega) [hbX];exact Red.rfl);exact Red.rfl;(focus (first|(simp;done)|omega|(simp;omega)))))
  (with_reducible apply d_call_); (simp; exact Red.rfl); exact kw; (focus (first | (simp; done) | (simp; omega)))
  (with_reducible apply d_read_); rfl; (simp [rd_old _ hbx, hbX]; exact Red.rfl); exact Red.rfl; trivial; (simp [repast, pr, AOp.sem, hbX])
  repeat ((with_reducible apply P1);rfl;(simp (disch:=omega) [rd_old _ hbx, hbX];exact Red.rfl);exact Red.rfl;(focus (first|(simp;done)|omega|(simp;omega))))
  (with_reducible apply d_call_); (simp; exact Red.rfl); exact kg; (simp [tnO]; omega)
  repeat (first|(with_reducible first|apply X1|apply X8|apply Y9)|((with_reducible apply d_end);(simp;exact Red.rfl))|((with_reducible apply P1);rfl;(simp (disch:=omega);exact Red.rfl);exact Red.rfl;(focus (first|(simp;done)|omega|(simp;omega)))))
  have hTb : (thP c (endT true c) (inP L) c.hs.length).length ≤ 8 * 12 := Nat.le_trans (thP_len _ _ _ _) (Nat.mul_le_mul (by omega) (by omega))
  have hBb : (thP c (endT false c) (inP L) c.hs.length).length ≤ 8 * 12 := Nat.le_trans (thP_len _ _ _ _) (Nat.mul_le_mul (by omega) (by omega))
  -- the first one, told
  refine gen_draw (fun t' Y => ∃ gv wv, t' = [(2, .ptr H.length 0), (5, .bool true), (6, .slice pid poff c.hs.length 1 pex), (7, gv), (8, wv)] ∧ H.length < Y.length ∧
        CvAt Y c p ∧ TrAt Y l p ∧ PlAt Y (.slice pid poff c.hs.length 1 pex) c.hs.length L ∧ rd Y H.length 0 10 = some (c.av p) ∧ GoAt Y gv c.bs.length (rowF c (endT true c) (inP L)) (c.hs.length + 1) ∧ RAt Y 2 wv (pv (thP c (endT true c) (inP L) c.hs.length)) (thP c (endT true c) (inP L) c.hs.length).length) ?_ ?_
  · refine ⟨_, _, rfl, by simp; omega, (hp.app _).app _, (ht.app _).app _, (hpl.app _).app _, ?_, by simpa using hgo, by simpa using hth⟩
    rw [List.append_assoc, rd_old _ hbx]; simpa [Cv.av] using hbX
  clear hgo hth kg kw hXt hXm hp hpl ht hbX hb huid hpid hbx hp1 hp2 hp3
  clear X
  rintro _ X ⟨gv, wv, rfl, hbx, hp, ht, hpl, hbX, hgoW, hthW⟩
  have hp1 := hp.t
  have hp2 := rd_lt hp.b
  have hp3 := rd_lt hp.h
  have hpid : pid < X.length := by obtain ⟨_, _, _, h, h2, _⟩ := hpl.get; cases h; exact h2
  have hgsc : ∀ k, gv.sc (X.length + k) = true := fun k => by obtain ⟨_, h1, h2, _⟩ := hgoW; rw [h1]; simp; omega
  have hwsc := fun k => hthW.sc (m := X.length + k) (by omega)
  have kw := c_end_b X l c p hp hc hv
  have hXt : rd (X ++ tnO c (endT false c)) X.length 0 c.bs.length = some (avL (endT false c).thick c.bs.length) := by
    simp only [rd_new0, tnO, iv_tn, rd_zero, avL_length]; simp [avL_take]
  have hXm : rd (X ++ tnO c (endT false c)) (X.length + 1) 0 c.hs.length = some (avL (endT false c).melt c.hs.length) := by
    rw [rd_new]; simp only [tnO, iv_tn, rd_succ, rd_zero, avL_length]; simp [avL_take]
  have kg := c_goes (X ++ tnO c (endT false c)) l c p (hp.app _) hc hv (endT false c) htb X.length (X.length + 1) false false hXt hXm _ L (hpl.app _) hokp
  have hgo := goAt_of (X ++ tnO c (endT false c)) c.bs.length (rowF c (endT false c) (inP L)) (c.hs.length + 1) (thP c (endT false c) (inP L) c.hs.length)
  have hth := goAt_thin (X ++ tnO c (endT false c)) c.bs.length (rowF c (endT false c) (inP L)) (c.hs.length + 1) (thP c (endT false c) (inP L) c.hs.length)
  simp only [Cv.av] at kw kg hbX
  simp only [tnV] at kw
  repeat ((with_reducible apply P2);rfl;(simp (disch:=omega) [hbX];exact Red.rfl);exact Red.rfl;(focus (first|(simp;done)|omega|(simp;omega))))
  (with_reducible apply d_call_); (simp; exact Red.rfl); exact kw; (focus (first | (simp; done) | (simp; omega)))
  (with_reducible apply d_read_); rfl; (simp [rd_old _ hbx, hbX]; exact Red.rfl); exact Red.rfl; trivial; (simp [repast, pr, AOp.sem, hbX])
  repeat ((with_reducible apply P1);rfl;(simp (disch:=omega) [rd_old _ hbx, hbX];exact Red.rfl);exact Red.rfl;(focus (first|(simp;done)|omega|(simp;omega))))
  (with_reducible apply d_call_); (simp; exact Red.rfl); exact kg; (simp [tnO]; omega)
  have hgl : gv.sc (X ++ tnO c (endT false c) ++ goO (X ++ tnO c (endT false c)).length c.bs.length (rowF c (endT false c) (inP L)) (c.hs.length + 1) (thP c (endT false c) (inP L) c.hs.length)).length = true := by
    rw [List.length_append, List.length_append, Nat.add_assoc]; exact hgsc _
  have hwl : wv.sc (X ++ tnO c (endT false c) ++ goO (X ++ tnO c (endT false c)).length c.bs.length (rowF c (endT false c) (inP L)) (c.hs.length + 1) (thP c (endT false c) (inP L) c.hs.length)).length = true := by
    rw [List.length_append, List.length_append, Nat.add_assoc]; exact hwsc _
  repeat (first|(with_reducible first|apply X1|apply X2|apply X8)|((with_reducible apply d_end);(simp;exact Red.rfl))|((with_reducible apply P1);rfl;(simp (disch:=omega);exact Red.rfl);exact Red.rfl;(focus (first|(simp;done)|omega|(simp;omega)))))
  generalize hTT : thP c (endT true c) (inP L) c.hs.length = T at *
  have kT := fun Y (h1 : CvAt Y c p) h2 pl h3 => c_iThinV Y l c p h1 h2 hv hc pl L h3 hokp
  have kS := fun Y (h1 : CvAt Y c p) h2 pl h3 => c_iSafeV Y l c p h1 h2 hv hc pl L h3 hokp
  have hsf : (safeF c L = 0 ∧ (thP c (endT false c) (inP L) c.hs.length) ≠ []) ∨ ((safeF c L = 1 ∨ safeF c L = 2) ∧ (thP c (endT false c) (inP L) c.hs.length) = []) := by
    simp only [safeF]
    split
    · left; simp_all
    · split <;> right <;> simp_all
  simp only [hTT] at kT
  generalize thP c (endT false c) (inP L) c.hs.length = B at *
  generalize safeF c L = s at *
  refine gen_ops (fun t' Y => ∃ gv2 wv2, t' = [(2, .ptr H.length 0), (5, .bool true), (6, .slice pid poff c.hs.length 1 pex), (7, gv), (8, wv), (9, gv2), (10, wv2)] ∧ H.length < Y.length ∧
        CvAt Y c p ∧ TrAt Y l p ∧ PlAt Y (.slice pid poff c.hs.length 1 pex) c.hs.length L ∧ rd Y H.length 0 10 = some (c.av p) ∧ GoAt Y gv c.bs.length (rowF c (endT true c) (inP L)) (c.hs.length + 1) ∧ RAt Y 2 wv (pv T) T.length ∧
        GoAt Y gv2 c.bs.length (rowF c (endT false c) (inP L)) (c.hs.length + 1) ∧ RAt Y 2 wv2 (pv B) B.length) ?_ ?_
  · refine ⟨_, _, rfl, by simp; omega, (hp.app _).app _, (ht.app _).app _, (hpl.app _).app _, ?_, (hgoW.app _).app _, (hthW.app _).app _, by simpa using hgo, by simpa using hth⟩
    rw [List.append_assoc, rd_old _ hbx]; simpa [Cv.av] using hbX
  clear hgo hth kg kw hXt hXm hp hpl ht hbX hpid hbx hp1 hp2 hp3 hgl hwl hgoW hthW hgsc hwsc
  clear X
  rintro _ Y ⟨gv2, wv2, rfl, hbx, hp, ht, hpl, hbX, hgo, hth, hgo2, hth2⟩
  have hp1 := hp.t
  have hp2 := rd_lt hp.b
  have hp3 := rd_lt hp.h
  have hpid : pid < Y.length := by obtain ⟨_, _, _, h, h2, _⟩ := hpl.get; cases h; exact h2
  have kS := fun K => kS (Y ++ K) (hp.app K) (ht.app K) _ (hpl.app K)
  have kT := kT Y hp ht _ hpl
  have hwsc := hth.sc (Nat.le_refl _)
  have hwsc2 := hth2.sc (Nat.le_refl _)
  obtain ⟨gid, rfl, hgid, hgr⟩ := hgo
  obtain ⟨gid2, rfl, hgid2, hgr2⟩ := hgo2
  simp only [Cv.av] at kT kS hbX
  repeat ((with_reducible apply O1);rfl;(simp (disch:=omega) [hbX];exact Red.rfl);exact Red.rfl;(focus (first|(simp;done)|omega|(simp;omega))))
  (with_reducible apply e_call); (simp; exact Red.rfl); exact kT
  rintro _ _ ⟨rfl, rfl⟩
  repeat (first|(with_reducible first|apply X1|apply X2|apply X8)|((with_reducible apply e_end);(simp;exact Red.rfl))|((with_reducible apply O1);rfl;(simp (disch:=omega) [rd_old _ hbx, hbX];exact Red.rfl);exact Red.rfl;(focus (first|(simp;done)|omega|(simp;omega)))))
  (with_reducible apply e_call); (simp; exact Red.rfl); exact kS _
  rintro _ _ ⟨rfl, rfl⟩
  have hTR : RAt (Y ++ lsO T.length (pv T)) 2 (lsV Y 2 T.length) (pv T) T.length := (ls_at Y (pv_length T)).l.r
  have hWR := hth.app (lsO T.length (pv T))
  have hBR := hth2.app (lsO T.length (pv T))
  have kW := c_r2SamePairs _ _ _ T hWR hTR (by omega)
  have hlsc := hTR.sc (Nat.le_refl _)
  simp only [List.length_append] at hlsc
  have hsd : wv.sc (Y.length + (lsO T.length (pv T)).length) = true := hth.sc (by omega)
  have hsd2 : wv2.sc (Y.length + (lsO T.length (pv T)).length) = true := hth2.sc (by omega)
  generalize lsV Y 2 T.length = lv at *
  generalize lsO T.length (pv T) = LO at *
  repeat (first|(with_reducible first|apply X1|apply X2|apply X8)|((with_reducible apply e_end);(simp;exact Red.rfl))|((with_reducible apply O1);rfl;(simp (disch:=omega);exact Red.rfl);exact Red.rfl;(focus (first|(simp;done)|omega|(simp;omega))))|((with_reducible apply Z7);(simp (disch:=omega);exact Red.rfl)))
  (with_reducible apply e_call); (simp; exact Red.rfl); exact kW
  rintro _ _ ⟨rfl, rfl⟩
  refine e_cut (fun t' h' => t' = [(2, .ptr H.length 0), (5, .bool true), (6, .slice pid poff c.hs.length 1 pex), (7, .slice gid 0 (c.hs.length + 1) 1 false), (9, .slice gid2 0 (c.hs.length + 1) 1 false), (78, .bool false)] ∧ h' = Y ++ LO) ?_ ?_
  · rcases hsf with ⟨rfl, y0⟩ | ⟨rfl | rfl, y0⟩
    · repeat (first|((with_reducible apply O1);rfl;(simp (disch:=omega);exact Red.rfl);exact Red.rfl;(focus (first|(simp;done)|omega|(simp;omega))))|((with_reducible apply Z7);(simp (disch:=omega);exact Red.rfl)))
      (with_reducible apply e_op); rfl; exact RAt.len hBR _ (by simp); exact Red.rfl; trivial
      have y1 : 0 < B.length := List.length_pos_iff.2 y0
      repeat (first|((with_reducible apply e_end);(simp;exact Red.rfl))|((with_reducible apply O1);rfl;(simp (disch:=omega) [y0, y1];exact Red.rfl);exact Red.rfl;(focus (first|(simp;done)|omega|(simp;omega))))|((with_reducible apply Z7);(simp (disch:=omega) [y0, y1];exact Red.rfl)))
      exact q_keep ⟨rfl, rfl⟩
    · repeat (first|((with_reducible apply O1);rfl;(simp (disch:=omega);exact Red.rfl);exact Red.rfl;(focus (first|(simp;done)|omega|(simp;omega))))|((with_reducible apply Z7);(simp (disch:=omega);exact Red.rfl)))
      (with_reducible apply e_op); rfl; exact RAt.len hBR _ (by simp); exact Red.rfl; trivial
      repeat (first|((with_reducible apply e_end);(simp;exact Red.rfl))|((with_reducible apply O1);rfl;(simp (disch:=omega) [y0];exact Red.rfl);exact Red.rfl;(focus (first|(simp;done)|omega|(simp;omega))))|((with_reducible apply Z7);(simp (disch:=omega) [y0];exact Red.rfl)))
      exact q_keep ⟨rfl, rfl⟩
    · repeat (first|((with_reducible apply O1);rfl;(simp (disch:=omega);exact Red.rfl);exact Red.rfl;(focus (first|(simp;done)|omega|(simp;omega))))|((with_reducible apply Z7);(simp (disch:=omega);exact Red.rfl)))
      (with_reducible apply e_op); rfl; exact RAt.len hBR _ (by simp); exact Red.rfl; trivial
      repeat (first|((with_reducible apply e_end);(simp;exact Red.rfl))|((with_reducible apply O1);rfl;(simp (disch:=omega) [y0];exact Red.rfl);exact Red.rfl;(focus (first|(simp;done)|omega|(simp;omega))))|((with_reducible apply Z7);(simp (disch:=omega) [y0];exact Red.rfl)))
      exact q_keep ⟨rfl, rfl⟩
  rintro _ _ ⟨rfl, rfl⟩
  repeat (first|(with_reducible first|apply X1|apply X2|apply X5|apply X6|apply X8)|((with_reducible apply e_end);(simp;exact Red.rfl))|((with_reducible apply O1);rfl;(simp (disch:=omega);exact Red.rfl);exact Red.rfl;(focus (first|(simp;done)|omega|(simp;omega))))|((with_reducible apply W3);(simp (disch:=omega);exact Red.rfl)))
  have kt := fun K s h hs hh => c_iThickV (Y ++ K) l c p (hp.app K) (ht.app K) hv hc _ L (hpl.app K) hokp s h hs hh
  have kl := fun K s h hs hh => c_iLossV (Y ++ K) l c p (hp.app K) (ht.app K) hv hc s h hs hh
  have bb1 : rd Y H.length 1 1 = some [.slice p.bid p.boff c.bs.length 3 p.bex] := by have := rd_sub' hbX 1 1 (by omega); simpa using this
  have bb2 : rd Y H.length 2 1 = some [.slice p.hid p.hoff c.hs.length 5 p.hex] := by have := rd_sub' hbX 2 1 (by omega); simpa using this
  have bb3 : rd Y H.length 3 1 = some [.int .i64 c.w1] := by have := rd_sub' hbX 3 1 (by omega); simpa using this
  have bb4 : rd Y H.length 4 1 = some [.int .i64 c.w2] := by have := rd_sub' hbX 4 1 (by omega); simpa using this
  simp only [Cv.av] at kt kl
  clear kT kS kW hTR hWR hBR hlsc hsd hsd2 hsf hwsc hwsc2 hth hth2
  refine e_loop (ι := { x : Nat × Heap // x.1 ≤ c.hs.length + 1 })
    (fun x => [(2, .ptr H.length 0), (5, .bool true), (6, .slice pid poff c.hs.length 1 pex), (7, .slice gid 0 (c.hs.length + 1) 1 false), (9, .slice gid2 0 (c.hs.length + 1) 1 false), (80, .int .i64 ((c.hs.length : Int) + 1)), (81, .int .i64 x.1.1)])
    (fun x => Y ++ x.1.2) (fun x => c.hs.length + 1 - x.1.1) ⟨(0, LO), by simp⟩ ?_ ?_
  · exact .inl rfl
  · rintro ⟨⟨h, K⟩, hh⟩
    dsimp only at hh ⊢
    by_cases hlt : h < c.hs.length + 1
    · have hlt2 : (h : Int) < (c.hs.length : Int) + 1 := by omega
      obtain ⟨rid, r1, r2, r3⟩ := hgr h hlt
      obtain ⟨rid2, r4, r5, r6⟩ := hgr2 h hlt
      repeat (first|(with_reducible first|apply X1|apply X2|apply X5|apply X6|apply X8)|((with_reducible apply e_end);(simp;exact Red.rfl))|((with_reducible apply O1);rfl;(simp (disch:=omega) [hlt, hlt2, rd_old _ hbx, bb1];exact Red.rfl);exact Red.rfl;(focus (first|(simp;done)|omega|(simp;omega))))|((with_reducible apply Z9);(simp (disch:=omega) [hlt, hlt2, rd_old _ hbx, bb1];exact Red.rfl)))
      refine e_loop (ι := { x : Nat × Heap // x.1 ≤ c.bs.length })
        (fun x => [(2, .ptr H.length 0), (5, .bool true), (6, .slice pid poff c.hs.length 1 pex), (7, .slice gid 0 (c.hs.length + 1) 1 false), (9, .slice gid2 0 (c.hs.length + 1) 1 false), (15, .int .i64 h), (80, .int .i64 ((c.hs.length : Int) + 1)), (81, .int .i64 h), (86, .int .i64 c.bs.length), (87, .int .i64 x.1.1)])
        (fun x => Y ++ x.1.2) (fun x => c.bs.length - x.1.1) ⟨(0, K), by simp⟩ ?_ ?_
      · exact .inl rfl
      · rintro ⟨⟨i, K⟩, hi⟩
        dsimp only at hi ⊢
        by_cases hil : i < c.bs.length
        · have hil2 : (i : Int) < c.bs.length := by omega
          have hr := r3 i hil
          have hr2 := r6 i hil
          have kt := fun K => kt K i h hil (by omega)
          simp only [rowF] at hr hr2
          generalize befF c (endT true c) (inP L) i h = x1 at *
          generalize befF c (endT false c) (inP L) i h = x2 at *
          repeat (first|(with_reducible first|apply X1|apply X2|apply X5|apply X6|apply X8)|((with_reducible apply e_end);(simp;exact Red.rfl))|((with_reducible apply O1);rfl;(simp (disch:=omega) [hil, hil2, rd_old _ hbx, hbX];exact Red.rfl);exact Red.rfl;(focus (first|(simp;done)|omega|(simp;omega))))|((with_reducible apply Z9);(simp (disch:=omega) [hil, hil2, rd_old _ hbx, hbX];exact Red.rfl)))
          (with_reducible apply e_call); (simp; exact Red.rfl); exact kt _
          rintro _ _ ⟨rfl, rfl⟩
          repeat (first|(with_reducible first|apply X1|apply X8|apply Y9)|((with_reducible apply e_end);(simp;exact Red.rfl))|((first|((with_reducible apply O1);rfl)|((with_reducible apply O2);rfl)|((with_reducible apply P1);rfl)|((with_reducible apply P2);rfl));(simp (disch:=omega) [hil, hil2, hlt, rd_old _ hgid, r1, rd_old _ r2, hr, rd_old _ hgid2, r4, rd_old _ r5, hr2];exact Red.rfl);exact Red.rfl;(focus (first|(simp;done)|omega|(simp;omega))))|((with_reducible apply Z8);(simp (disch:=omega) [hil, hil2, hlt, rd_old _ hgid, r1, rd_old _ r2, hr, rd_old _ hgid2, r4, rd_old _ r5, hr2];exact Red.rfl)))
          (with_reducible apply d_call); (simp; exact Red.rfl); exact c_span2 _ x1 x2; (focus (first | (simp; done) | (simp; omega)))
          by_cases hle : h = c.hs.length
          · have hle2 : (h : Int) = c.hs.length := by omega
            repeat (first|(with_reducible first|apply X1|apply X2|apply X4|apply X5|apply X8|apply Y1|apply Y4)|((with_reducible first|apply e_end|apply d_end);(simp;exact Red.rfl))|((first|((with_reducible apply O1);rfl)|((with_reducible apply P1);rfl));(simp (disch:=omega) [hle2, rd_old _ hbx, bb2];exact Red.rfl);exact Red.rfl;(focus (first|(simp;done)|omega|(simp;omega))))|((with_reducible first|apply Z8|apply Z9);(simp (disch:=omega) [hle2, rd_old _ hbx, bb2];exact Red.rfl))|((with_reducible apply W3);(simp (disch:=omega) [hle2, rd_old _ hbx, bb2];exact Red.rfl)))
            exact q_again ⟨(i + 1, K ++ [.cells [.int .i64 x1, .int .i64 x2] true]), by dsimp only; omega⟩ (by dsimp only; omega) (.inl (by simp))
          · have hle2 : ¬ (h : Int) = c.hs.length := by omega
            have hh3 : h < c.hs.length := by omega
            have kl := fun K => kl K i h hil hh3
            have hy := rd_sub' (hp.bed hil) 2 1 (by omega)
            have hx0 := rd_sub' (hp.hour hh3) 0 1 (by omega)
            have hx1 := rd_sub' (hp.hour hh3) 1 1 (by omega)
            have hx2 := rd_sub' (hp.hour hh3) 2 1 (by omega)
            have lo1 := loss_bd hc hto hil hh3
            have lo2 := loss_bd hc htb hil hh3
            have l1 : lossF c (endT true c) i h = (c.b i).sun * (c.h h).m2 + (c.h h).runs * c.w2 := rfl
            have l2 : lossF c (endT false c) i h = (c.b i).sun * (c.h h).m1 + (c.h h).runs * c.w1 := rfl
            have l3 : (endT true c).melt h = (c.h h).m2 := rfl
            have l4 : (endT false c).melt h = (c.h h).m1 := rfl
            have l5 : (endT true c).wear = c.w2 := rfl
            have l6 : (endT false c).wear = c.w1 := rfl
            have lm := loss_mono hc (worst_le htb) hil hh3
            rw [l1, l3, l5] at lo1
            rw [l2, l4, l6] at lo2
            rw [l1, l2] at lm
            simp only [l1, l2] at kl
            simp only [Bd.av, Hr.av, List.drop_succ_cons, List.drop_zero, List.take_succ_cons, List.take_zero, Nat.add_zero] at hy hx0 hx1 hx2
            generalize (c.b i).sun = y at *
            generalize (c.h h).m1 = m1 at *
            generalize (c.h h).m2 = m2 at *
            generalize (c.h h).runs = ru at *
            have n1 : ¬ y * m2 + ru * c.w2 < y * m1 + ru * c.w1 := by omega
            repeat (first|(with_reducible first|apply X1|apply X2|apply X5|apply X8)|((with_reducible first|apply e_end|apply d_end);(simp;exact Red.rfl))|((first|((with_reducible apply O1);rfl)|((with_reducible apply P1);rfl));(simp (disch:=omega) [hle2, rd_old _ hbx, bb2, hbX];exact Red.rfl);exact Red.rfl;(focus (first|(simp;done)|omega|(simp;omega))))|((with_reducible apply Z8);(simp (disch:=omega) [hle2, rd_old _ hbx, bb2, hbX];exact Red.rfl))|((with_reducible apply W3);(simp (disch:=omega) [hle2, rd_old _ hbx, bb2, hbX];exact Red.rfl)))
            (with_reducible apply e_call); (simp; exact Red.rfl); exact kl _
            rintro _ _ ⟨rfl, rfl⟩
            repeat (first|(with_reducible first|apply X1|apply X2|apply X5|apply X8|apply Y2|apply Y9)|((with_reducible first|apply e_end|apply d_end);(simp;exact Red.rfl))|((first|((with_reducible apply O1);rfl)|((with_reducible apply O2);rfl)|((with_reducible apply P1);rfl)|((with_reducible apply P2);rfl));(simp (disch:=omega) [n1, hil, hh3, rd_old _ hbx, bb1, bb2, bb3, bb4, rd_old _ hp2, rd_old _ hp3, hy, hx0, hx1, hx2];exact Red.rfl);exact Red.rfl;(focus (first|(simp;done)|omega|(simp;omega))))|((with_reducible apply Z8);(simp (disch:=omega) [n1, hil, hh3, rd_old _ hbx, bb1, bb2, bb3, bb4, rd_old _ hp2, rd_old _ hp3, hy, hx0, hx1, hx2];exact Red.rfl))|((with_reducible apply W3);(simp (disch:=omega) [n1, hil, hh3, rd_old _ hbx, bb1, bb2, bb3, bb4, rd_old _ hp2, rd_old _ hp3, hy, hx0, hx1, hx2];exact Red.rfl)))
            exact q_again ⟨(i + 1, K ++ [.cells [.int .i64 x1, .int .i64 x2] true, .cells [.int .i64 (y * m1 + ru * c.w1), .int .i64 (y * m2 + ru * c.w2)] true]), by dsimp only; omega⟩ (by dsimp only; omega) (.inl (by simp))
        · have hil2 : ¬ (i : Int) < c.bs.length := by omega
          repeat (first|(with_reducible first|apply X1|apply X2|apply X4|apply X8|apply Y1|apply Y2|apply Y4|apply Y6)|((with_reducible apply e_end);(simp;exact Red.rfl))|((with_reducible apply O1);rfl;(simp (disch:=omega) [hil2];exact Red.rfl);exact Red.rfl;(focus (first|(simp;done)|omega|(simp;omega))))|((with_reducible apply W3);(simp (disch:=omega) [hil2];exact Red.rfl)))
          exact q_again ⟨(h + 1, K), by dsimp only; omega⟩ (by dsimp only; omega) (.inl (by simp))
    · have hlt2 : ¬ (h : Int) < (c.hs.length : Int) + 1 := by omega
      repeat (first|(with_reducible first|apply X1|apply X2|apply X3|apply X4|apply X8|apply Y1|apply Y4|apply Y6)|((with_reducible apply e_end);(simp;exact Red.rfl))|((with_reducible apply O1);rfl;(simp (disch:=omega) [hlt2];exact Red.rfl);exact Red.rfl;(focus (first|(simp;done)|omega|(simp;omega))))|((with_reducible apply W3);(simp (disch:=omega) [hlt2];exact Red.rfl)))
      exact q_stay (.inr rfl) (by simp; exact Red.rfl) rfl
end Go.Proofs
