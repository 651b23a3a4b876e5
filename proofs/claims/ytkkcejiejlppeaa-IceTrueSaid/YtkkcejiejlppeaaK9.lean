/- The law IceTrue: its contract, whole. -/
import Derived.Test.YtkkcejiejlppeaaKB
import Derived.Test.YtkkcejiejlppeaaR5
namespace Go.Proofs
open Go.Abs
attribute [local simp] AOp.den AOpd.ev lk cellsOf rd_new rd_new0 rd_zero rd_succ wr_new wr_new0 wr_zero wr_succ splice fillA binA scal sliceCells List.length_append argsT AV.sc scL AObj.sc resV getAll AR.get AOp.slots opdSlots opdsSlots partSlots eqAt at_new0 at_new set_new0 set_new wrap64
set_option linter.unusedSimpArgs false
set_option linter.unusedVariables false
theorem pv_bef_in {c : Cv} {n : Nat} (hc : c.ok n) {t u : Tn} (h : Tn.le c t u) (P : Nat → Nat → Bool) {k : Nat} (hk : k ≤ c.hs.length) : ∀ x ∈ thP c u P k, x ∈ thP c t P k := fun x hx => by
  obtain ⟨h1, s, h2, h3, h4, rfl⟩ := thP_mem.1 hx
  exact thP_mem.2 ⟨h1, s, h2, h3, too_mono hc h P h3 (by omega) h4, rfl⟩
theorem thL_nodup (c : Cv) (t : Tn) (P : Nat → Nat → Bool) (h i : Nat) : (thL c t P h i).Nodup := by
  refine List.pairwise_map.2 ((List.nodup_range.filter _).imp fun {a b} hab => ?_)
  omega
theorem thP_nodup (c : Cv) (t : Tn) (P : Nat → Nat → Bool) : ∀ k, (thP c t P k).Nodup
  | 0 => List.nodup_nil
  | k + 1 => by
    refine List.nodup_append.2 ⟨thP_nodup c t P k, List.pairwise_map.2 ((thL_nodup c t P k c.bs.length).imp fun {a b} hab h => hab (by simpa using h)), fun x hx y hy hxy => ?_⟩
    have h1 := (thP_lt hx).2
    obtain ⟨s, _, rfl⟩ := List.mem_map.1 hy
    subst hxy
    simp at h1
theorem len_of_in {α : Type} {a b : List α} (h : ∀ x ∈ a, x ∈ b) (h0 : b.length = 0) : a.length = 0 := by
  cases a with
  | nil => rfl
  | cons x a =>
    have := h x (by simp)
    rw [List.length_eq_zero_iff.1 h0] at this
    simp at this
set_option maxHeartbeats 4000000 in
theorem c_lawIT (H : Heap) (l : List Str) (c : Cv) (p : Plc) (us : List Int) (uid uoff : Nat) (uex : Bool) (hp : CvAt H c p) (ht : TrAt H l p) (hn : (l.length : Int) ≤ 9223372036854775807) (hn1 : (c.bs.length : Int) ≤ 9223372036854775807) (hn2 : (c.hs.length : Int) ≤ 9223372036854775807)
    (hb : rd H uid uoff us.length = some (us.map (.int .u32))) (hu : ∀ u ∈ us, 0 ≤ u ∧ u ≤ 4294967295) (hun : (us.length : Int) ≤ 9223372036854775807) :
    ACalls Try.prog F.law02_IceTrue [.agg (c.av p), .slice uid uoff us.length 1 uex] H (fun v _ => v = .bool true) := by
  have hp1 := hp.t
  have hp2 := rd_lt hp.b
  have hp3 := rd_lt hp.h
  have huid := rd_lt hb
  have kr := fun G => c_ready2 (H ++ G) l c p (hp.app G) (ht.app G) hn hn1 hn2
  have kd := fun G hc hv => c_drawn2 (H ++ G) l c p (hp.app G) hc hv us 0 uid uoff uex (by rw [rd_old _ huid]; exact hb) hu hun (by omega)
  simp only [Cv.av] at kr kd
  refine acalls_of ok_law02_IceTrue rfl fun hcl => ?_
  unfold ac_law02_IceTrue
  simp only [argsT, Nat.zero_add, Nat.reduceAdd]
  simp only [Cv.av]
  repeat (first|(with_reducible first|apply X1|apply X2|apply X8)|((with_reducible apply e_end);(simp;exact Red.rfl))|((with_reducible apply O1);rfl;(simp (disch:=omega);exact Red.rfl);exact Red.rfl;(focus (first|(simp;done)|omega|(simp;omega)))))
  (with_reducible apply e_call); (simp; exact Red.rfl); exact c_aliveI _
  rintro _ _ ⟨rfl, rfl⟩
  repeat (first|(with_reducible first|apply X1|apply X2|apply X5|apply X8)|((with_reducible apply e_end);(simp;exact Red.rfl))|((with_reducible apply O1);rfl;(simp (disch:=omega);exact Red.rfl);exact Red.rfl;(focus (first|(simp;done)|omega|(simp;omega))))|((with_reducible apply W3);(simp (disch:=omega);exact Red.rfl)))
  (with_reducible apply e_call); (simp; exact Red.rfl); exact kr _
  rintro _ _ ⟨rfl, b, rfl, hrd⟩
  cases b with
  | false =>
    repeat (first|(with_reducible first|apply X1|apply X2|apply X3|apply X8|apply X9)|((with_reducible apply e_end);(simp;exact Red.rfl))|((with_reducible apply O1);rfl;(simp (disch:=omega);exact Red.rfl);exact Red.rfl;(focus (first|(simp;done)|omega|(simp;omega))))|((with_reducible apply Z9);(simp (disch:=omega);exact Red.rfl)))
    exact q_stay (.inr rfl) (by simp; exact Red.rfl) rfl
  | true =>
  obtain ⟨hv, hc⟩ := hrd.1 rfl
  have h12 := hv.1
  have hlen := hc.len
  have h8 := hc.hours
  repeat (first|(with_reducible first|apply X1|apply X2|apply X5|apply X8)|((with_reducible apply e_end);(simp;exact Red.rfl))|((with_reducible apply O1);rfl;(simp (disch:=omega);exact Red.rfl);exact Red.rfl;(focus (first|(simp;done)|omega|(simp;omega))))|((with_reducible apply W3);(simp (disch:=omega);exact Red.rfl)))
  (with_reducible apply e_call); (simp; exact Red.rfl); exact kd _ hc hv
  rintro pl _ ⟨G, rfl, hpl⟩
  have hokp := plnL_okPl hc us 0
  generalize hL : (fun h => plnL c us 0 h c.bs.length) = L at *
  obtain ⟨pid, poff, pex, rfl, hpid, hrow⟩ := hpl.get
  refine gen_ops (fun t X => t = [(26, .slice pid poff c.hs.length 1 pex), (25, .slice uid uoff us.length 1 uex), (24, .agg (c.av p)), (1, .slice uid uoff us.length 1 uex), (2, .ptr H.length 0), (5, .bool true), (22, .bool false)] ∧ H.length < X.length ∧
        CvAt X c p ∧ TrAt X l p ∧ PlAt X (.slice pid poff c.hs.length 1 pex) c.hs.length L ∧ rd X H.length 0 10 = some (c.av p) ∧ rd X uid uoff us.length = some (us.map (.int .u32))) ?_ ?_
  · refine ⟨by simp [Cv.av], by simp, ?_, ?_, hpl, by simp [Cv.av], ?_⟩
    · rw [List.append_assoc]; exact hp.app _
    · rw [List.append_assoc]; exact ht.app _
    · rw [List.append_assoc, rd_old _ huid]; exact hb
  clear hrow hpl hp ht hb kr kd hp1 hp2 hp3 huid
  rintro _ X ⟨rfl, hbx, hp, ht, hpl, hbX, hb⟩
  have huid := rd_lt hb
  have hp1 := hp.t
  have hp2 := rd_lt hp.b
  have hp3 := rd_lt hp.h
  have hpid : pid < X.length := by obtain ⟨_, _, _, h, h2, _⟩ := hpl.get; cases h; exact h2
  have kc := c_chosen X l c p hp hc hv us 7 uid uoff uex hb hu hun (by omega)
  have hto := chT_ok hc us 7
  generalize chT c us 7 = t at *
  have hXt : rd (X ++ tnO c t) X.length 0 c.bs.length = some (avL t.thick c.bs.length) := by
    simp only [rd_new0, tnO, iv_tn, rd_zero, avL_length]; simp [avL_take]
  have hXm : rd (X ++ tnO c t) (X.length + 1) 0 c.hs.length = some (avL t.melt c.hs.length) := by
    rw [rd_new]; simp only [tnO, iv_tn, rd_succ, rd_zero, avL_length]; simp [avL_take]
  have kg := c_goes (X ++ tnO c t) l c p (hp.app _) hc hv t hto X.length (X.length + 1) false false hXt hXm _ L (hpl.app _) hokp
  have hgo := goAt_of (X ++ tnO c t) c.bs.length (rowF c t (inP L)) (c.hs.length + 1) (thP c t (inP L) c.hs.length)
  have hth := goAt_thin (X ++ tnO c t) c.bs.length (rowF c t (inP L)) (c.hs.length + 1) (thP c t (inP L) c.hs.length)
  simp only [Cv.av] at kc kg hbX
  simp only [tnV] at kc
  have hplX := fun T => hpl.app T
  repeat (first|(with_reducible first|apply X1|apply X8|apply Y9)|((with_reducible apply e_end);(simp;exact Red.rfl))|((first|((with_reducible apply O1);rfl)|((with_reducible apply P1);rfl)|((with_reducible apply P2);rfl));(simp (disch:=omega) [hbX];exact Red.rfl);exact Red.rfl;(focus (first|(simp;done)|omega|(simp;omega)))))
  (with_reducible apply d_call_); (simp; exact Red.rfl); exact kc; (focus (first | (simp; done) | (simp; omega)))
  (with_reducible apply d_read_); rfl; (simp [rd_old _ hbx, hbX]; exact Red.rfl); exact Red.rfl; trivial; (simp [repast, pr, AOp.sem, hbX])
  repeat ((with_reducible apply P1);rfl;(simp (disch:=omega) [rd_old _ hbx, hbX];exact Red.rfl);exact Red.rfl;(focus (first|(simp;done)|omega|(simp;omega))))
  (with_reducible apply d_call_); (simp; exact Red.rfl); exact kg; (simp [tnO]; omega)
  repeat (first|(with_reducible first|apply X1|apply X2|apply X8)|((with_reducible apply d_end);(simp;exact Red.rfl))|((with_reducible apply P1);rfl;(simp (disch:=omega);exact Red.rfl);exact Red.rfl;(focus (first|(simp;done)|omega|(simp;omega)))))
  have hW1 : ∀ x ∈ thP c (endT false c) (inP L) c.hs.length, x ∈ thP c t (inP L) c.hs.length := pv_bef_in hc (best_le hto) _ (Nat.le_refl _)
  have hW2 : ∀ x ∈ thP c t (inP L) c.hs.length, x ∈ thP c (endT true c) (inP L) c.hs.length := pv_bef_in hc (worst_le hto) _ (Nat.le_refl _)
  have hTn := thP_nodup c (endT true c) (inP L) c.hs.length
  have hTb : (thP c (endT true c) (inP L) c.hs.length).length ≤ 8 * 12 := Nat.le_trans (thP_len _ _ _ _) (Nat.mul_le_mul (by omega) (by omega))
  have hWb : (thP c t (inP L) c.hs.length).length ≤ 8 * 12 := Nat.le_trans (thP_len _ _ _ _) (Nat.mul_le_mul (by omega) (by omega))
  have kT := fun Y (h1 : CvAt Y c p) h2 pl h3 => c_iThinV Y l c p h1 h2 hv hc pl L h3 hokp
  have kS := fun Y (h1 : CvAt Y c p) h2 pl h3 => c_iSafeV Y l c p h1 h2 hv hc pl L h3 hokp
  have hsf : (safeF c L = 0 ∧ (thP c (endT false c) (inP L) c.hs.length).length ≠ 0) ∨ (safeF c L = 1 ∧ (thP c (endT true c) (inP L) c.hs.length).length ≠ 0) ∨ (safeF c L = 2 ∧ (thP c (endT true c) (inP L) c.hs.length).length = 0) := by
    simp only [safeF, ne_eq, List.length_eq_zero_iff]
    split
    · left; simp_all
    · split
      · right; left; simp_all
      · right; right; simp_all
  generalize hTT : thP c (endT true c) (inP L) c.hs.length = T at *
  generalize hWW : thP c t (inP L) c.hs.length = W at *
  generalize thP c (endT false c) (inP L) c.hs.length = B at *
  generalize safeF c L = s at *
  refine gen_ops (fun t' Y => ∃ gv wv, t' = [(2, .ptr H.length 0), (5, .bool true), (6, .slice pid poff c.hs.length 1 pex), (7, gv), (8, wv)] ∧ H.length < Y.length ∧
        CvAt Y c p ∧ TrAt Y l p ∧ PlAt Y (.slice pid poff c.hs.length 1 pex) c.hs.length L ∧ rd Y H.length 0 10 = some (c.av p) ∧ GoAt Y gv c.bs.length (rowF c t (inP L)) (c.hs.length + 1) ∧ RAt Y 2 wv (pv W) W.length) ?_ ?_
  · refine ⟨_, _, rfl, by simp; omega, (hp.app _).app _, (ht.app _).app _, (hpl.app _).app _, ?_, by simpa using hgo, by simpa using hth⟩
    rw [List.append_assoc, rd_old _ hbx]; simpa [Cv.av] using hbX
  clear hgo hth hplX kg kc hXt hXm hp hpl ht hbX hb huid hpid hbx hp1 hp2 hp3
  clear X
  rintro _ Y ⟨gv, wv, rfl, hbx, hp, ht, hpl, hbX, hgo, hth⟩
  have hp1 := hp.t
  have hp2 := rd_lt hp.b
  have hp3 := rd_lt hp.h
  have hpid : pid < Y.length := by obtain ⟨_, _, _, h, h2, _⟩ := hpl.get; cases h; exact h2
  have kS := fun K => kS (Y ++ K) (hp.app K) (ht.app K) _ (hpl.app K)
  have kT := fun K => kT (Y ++ K) (hp.app K) (ht.app K) _ (hpl.app K)
  have kS0 := kS []
  have kT0 := kT []
  rw [List.append_nil] at kS0 kT0
  have hwsc := hth.sc (Nat.le_refl _)
  obtain ⟨gid, rfl, hgid, hgr⟩ := hgo
  simp only [Cv.av] at kT kS kT0 kS0 hbX
  repeat ((with_reducible apply O1);rfl;(simp (disch:=omega) [hbX];exact Red.rfl);exact Red.rfl;(focus (first|(simp;done)|omega|(simp;omega))))
  (with_reducible apply e_call); (simp; exact Red.rfl); exact kT0
  rintro _ _ ⟨rfl, rfl⟩
  repeat (first|(with_reducible first|apply X1|apply X2|apply X8)|((with_reducible apply e_end);(simp;exact Red.rfl))|((with_reducible apply O1);rfl;(simp (disch:=omega) [rd_old _ hbx, hbX];exact Red.rfl);exact Red.rfl;(focus (first|(simp;done)|omega|(simp;omega)))))
  (with_reducible apply e_call); (simp; exact Red.rfl); exact kS _
  rintro _ _ ⟨rfl, rfl⟩
  have hTR : RAt (Y ++ lsO T.length (pv T)) 2 (lsV Y 2 T.length) (pv T) T.length := (ls_at Y (pv_length T)).l.r
  have hWR := hth.app (lsO T.length (pv T))
  have kW := c_within2 _ _ _ W T hWR hTR (by omega) (by omega) hTn hW2
  have hlsc := hTR.sc (Nat.le_refl _)
  simp only [List.length_append] at hlsc
  have hsd : wv.sc (Y.length + (lsO T.length (pv T)).length) = true := hth.sc (by omega)
  have hsW : (s = 0 ∧ W.length ≠ 0) ∨ s = 1 ∨ (s = 2 ∧ W.length = 0) := by
    rcases hsf with ⟨h1, h2⟩ | ⟨h1, h2⟩ | ⟨h1, h2⟩
    · exact .inl ⟨h1, fun h => h2 (len_of_in hW1 h)⟩
    · exact .inr (.inl h1)
    · exact .inr (.inr ⟨h1, len_of_in hW2 h2⟩)
  have hsT : (s = 0 ∧ T.length ≠ 0) ∨ (s = 1 ∧ T.length ≠ 0) ∨ (s = 2 ∧ T.length = 0) := by
    rcases hsf with ⟨h1, h2⟩ | ⟨h1, h2⟩ | ⟨h1, h2⟩
    · exact .inl ⟨h1, fun h => h2 (len_of_in (fun x hx => hW2 x (hW1 x hx)) h)⟩
    · exact .inr (.inl ⟨h1, h2⟩)
    · exact .inr (.inr ⟨h1, h2⟩)
  generalize lsV Y 2 T.length = lv at *
  generalize lsO T.length (pv T) = LO at *
  repeat (first|(with_reducible first|apply X1|apply X2|apply X8)|((with_reducible apply e_end);(simp;exact Red.rfl))|((with_reducible apply O1);rfl;(simp (disch:=omega);exact Red.rfl);exact Red.rfl;(focus (first|(simp;done)|omega|(simp;omega))))|((with_reducible apply Z7);(simp (disch:=omega);exact Red.rfl)))
  (with_reducible apply e_call); (simp; exact Red.rfl); exact kW
  rintro _ _ ⟨rfl, rfl⟩
  refine e_cut (fun t' h' => t' = [(2, .ptr H.length 0), (5, .bool true), (6, .slice pid poff c.hs.length 1 pex), (7, .slice gid 0 (c.hs.length + 1) 1 false), (89, .bool false)] ∧ h' = Y ++ LO) ?_ ?_
  · rcases hsT with ⟨rfl, y0⟩ | ⟨rfl, y0⟩ | ⟨rfl, y0⟩
    · have w0 : W.length ≠ 0 := by
        rcases hsW with ⟨_, h⟩ | h | ⟨h, _⟩
        · exact h
        · cases h
        · cases h
      have w1 : ¬ W = [] := fun h => w0 (by rw [h]; rfl)
      have y1 : ¬ T = [] := fun h => y0 (by rw [h]; rfl)
      repeat (first|((with_reducible apply O1);rfl;(simp (disch:=omega);exact Red.rfl);exact Red.rfl;(focus (first|(simp;done)|omega|(simp;omega))))|((with_reducible apply Z7);(simp (disch:=omega);exact Red.rfl))|((with_reducible apply Z1);(simp (disch:=omega);exact Red.rfl)))
      (with_reducible apply e_op); rfl; exact RAt.len hWR _ (by simp); exact Red.rfl; trivial
      repeat (first|((with_reducible apply O1);rfl;(simp (disch:=omega) [w1];exact Red.rfl);exact Red.rfl;(focus (first|(simp;done)|omega|(simp;omega))))|((with_reducible apply Z7);(simp (disch:=omega) [w1];exact Red.rfl)))
      (with_reducible apply e_op); rfl; exact RAt.len hTR _ (by simp); exact Red.rfl; trivial
      repeat (first|((with_reducible apply e_end);(simp;exact Red.rfl))|((with_reducible apply O1);rfl;(simp (disch:=omega) [y1, w1];exact Red.rfl);exact Red.rfl;(focus (first|(simp;done)|omega|(simp;omega))))|((with_reducible apply Z7);(simp (disch:=omega) [y1, w1];exact Red.rfl)))
      exact q_keep ⟨rfl, rfl⟩
    · have y1 : ¬ T = [] := fun h => y0 (by rw [h]; rfl)
      repeat (first|((with_reducible apply O1);rfl;(simp (disch:=omega);exact Red.rfl);exact Red.rfl;(focus (first|(simp;done)|omega|(simp;omega))))|((with_reducible apply Z7);(simp (disch:=omega);exact Red.rfl))|((with_reducible apply Z1);(simp (disch:=omega);exact Red.rfl)))
      (with_reducible apply e_op); rfl; exact RAt.len hTR _ (by simp); exact Red.rfl; trivial
      repeat (first|((with_reducible apply e_end);(simp;exact Red.rfl))|((with_reducible apply O1);rfl;(simp (disch:=omega) [y1];exact Red.rfl);exact Red.rfl;(focus (first|(simp;done)|omega|(simp;omega))))|((with_reducible apply Z7);(simp (disch:=omega) [y1];exact Red.rfl)))
      exact q_keep ⟨rfl, rfl⟩
    · have w0 : W.length = 0 := by
        rcases hsW with ⟨h, _⟩ | h | ⟨_, h⟩
        · cases h
        · cases h
        · exact h
      have w1 : W = [] := List.length_eq_zero_iff.1 w0
      have y1 : T = [] := List.length_eq_zero_iff.1 y0
      repeat (first|((with_reducible apply O1);rfl;(simp (disch:=omega);exact Red.rfl);exact Red.rfl;(focus (first|(simp;done)|omega|(simp;omega))))|((with_reducible apply Z7);(simp (disch:=omega);exact Red.rfl)))
      (with_reducible apply e_op); rfl; exact RAt.len hWR _ (by simp); exact Red.rfl; trivial
      repeat (first|((with_reducible apply O1);rfl;(simp (disch:=omega) [w1];exact Red.rfl);exact Red.rfl;(focus (first|(simp;done)|omega|(simp;omega))))|((with_reducible apply Z7);(simp (disch:=omega) [w1];exact Red.rfl))|((with_reducible apply Z1);(simp (disch:=omega) [w1];exact Red.rfl)))
      (with_reducible apply e_op); rfl; exact RAt.len hTR _ (by simp); exact Red.rfl; trivial
      repeat (first|((with_reducible apply e_end);(simp;exact Red.rfl))|((with_reducible apply O1);rfl;(simp (disch:=omega) [y1, w1];exact Red.rfl);exact Red.rfl;(focus (first|(simp;done)|omega|(simp;omega))))|((with_reducible apply Z7);(simp (disch:=omega) [y1, w1];exact Red.rfl)))
      exact q_keep ⟨rfl, rfl⟩
  rintro _ _ ⟨rfl, rfl⟩
  repeat (first|(with_reducible first|apply X1|apply X2|apply X5|apply X6|apply X8)|((with_reducible apply e_end);(simp;exact Red.rfl))|((with_reducible apply O1);rfl;(simp (disch:=omega);exact Red.rfl);exact Red.rfl;(focus (first|(simp;done)|omega|(simp;omega))))|((with_reducible apply W3);(simp (disch:=omega);exact Red.rfl)))
  have kt := fun K s h hs hh => c_iThickV (Y ++ K) l c p (hp.app K) (ht.app K) hv hc _ L (hpl.app K) hokp s h hs hh
  have bb1 : rd Y H.length 1 1 = some [.slice p.bid p.boff c.bs.length 3 p.bex] := by have := rd_sub' hbX 1 1 (by omega); simpa using this
  simp only [Cv.av] at kt
  clear kT kS kT0 kS0 kW hTR hWR hlsc hsd hsW hsT hsf hwsc hth
  refine e_loop (ι := { x : Nat × Heap // x.1 ≤ c.hs.length + 1 })
    (fun x => [(2, .ptr H.length 0), (5, .bool true), (6, .slice pid poff c.hs.length 1 pex), (7, .slice gid 0 (c.hs.length + 1) 1 false), (91, .int .i64 ((c.hs.length : Int) + 1)), (92, .int .i64 x.1.1)])
    (fun x => Y ++ x.1.2) (fun x => c.hs.length + 1 - x.1.1) ⟨(0, LO), by simp⟩ ?_ ?_
  · exact .inl rfl
  · rintro ⟨⟨h, K⟩, hh⟩
    dsimp only at hh ⊢
    by_cases hlt : h < c.hs.length + 1
    · have hlt2 : (h : Int) < (c.hs.length : Int) + 1 := by omega
      obtain ⟨rid, r1, r2, r3⟩ := hgr h hlt
      repeat (first|(with_reducible first|apply X1|apply X2|apply X5|apply X6|apply X8)|((with_reducible apply e_end);(simp;exact Red.rfl))|((with_reducible apply O1);rfl;(simp (disch:=omega) [hlt, hlt2, rd_old _ hbx, bb1];exact Red.rfl);exact Red.rfl;(focus (first|(simp;done)|omega|(simp;omega))))|((with_reducible apply Z9);(simp (disch:=omega) [hlt, hlt2, rd_old _ hbx, bb1];exact Red.rfl)))
      refine e_loop (ι := { x : Nat × Heap // x.1 ≤ c.bs.length })
        (fun x => [(2, .ptr H.length 0), (5, .bool true), (6, .slice pid poff c.hs.length 1 pex), (7, .slice gid 0 (c.hs.length + 1) 1 false), (13, .int .i64 h), (91, .int .i64 ((c.hs.length : Int) + 1)), (92, .int .i64 h), (97, .int .i64 c.bs.length), (98, .int .i64 x.1.1)])
        (fun x => Y ++ x.1.2) (fun x => c.bs.length - x.1.1) ⟨(0, K), by simp⟩ ?_ ?_
      · exact .inl rfl
      · rintro ⟨⟨i, K⟩, hi⟩
        dsimp only at hi ⊢
        by_cases hil : i < c.bs.length
        · have hil2 : (i : Int) < c.bs.length := by omega
          have hr := r3 i hil
          have hlo := bef_mono hc (worst_le hto) (inP L) hil (k := h) (by omega)
          have hhi := bef_mono hc (best_le hto) (inP L) hil (k := h) (by omega)
          have kt := fun K => kt K i h hil (by omega)
          simp only [rowF] at hr
          generalize befF c t (inP L) i h = x at *
          generalize befF c (endT true c) (inP L) i h = x1 at *
          generalize befF c (endT false c) (inP L) i h = x2 at *
          have n1 : ¬ x < x1 := by omega
          have n2 : ¬ x2 < x := by omega
          repeat (first|(with_reducible first|apply X1|apply X2|apply X5|apply X6|apply X8)|((with_reducible apply e_end);(simp;exact Red.rfl))|((with_reducible apply O1);rfl;(simp (disch:=omega) [hil, hil2, rd_old _ hbx, hbX];exact Red.rfl);exact Red.rfl;(focus (first|(simp;done)|omega|(simp;omega))))|((with_reducible apply Z9);(simp (disch:=omega) [hil, hil2, rd_old _ hbx, hbX];exact Red.rfl)))
          (with_reducible apply e_call); (simp; exact Red.rfl); exact kt _
          rintro _ _ ⟨rfl, rfl⟩
          repeat (first|(with_reducible first|apply X1|apply X2|apply X5|apply X8|apply Y2|apply Y9)|((with_reducible first|apply e_end|apply d_end);(simp;exact Red.rfl))|((first|((with_reducible apply O1);rfl)|((with_reducible apply O2);rfl)|((with_reducible apply P1);rfl)|((with_reducible apply P2);rfl));(simp (disch:=omega) [hil, hil2, hlt, rd_old _ hgid, r1, rd_old _ r2, hr, n1, n2];exact Red.rfl);exact Red.rfl;(focus (first|(simp;done)|omega|(simp;omega))))|((with_reducible apply Z8);(simp (disch:=omega) [hil, hil2, hlt, rd_old _ hgid, r1, rd_old _ r2, hr, n1, n2];exact Red.rfl))|((with_reducible apply W3);(simp (disch:=omega) [hil, hil2, hlt, rd_old _ hgid, r1, rd_old _ r2, hr, n1, n2];exact Red.rfl)))
          exact q_again ⟨(i + 1, K ++ [.cells [.int .i64 x1, .int .i64 x2] true]), by dsimp only; omega⟩ (by dsimp only; omega) (.inl (by simp))
        · have hil2 : ¬ (i : Int) < c.bs.length := by omega
          repeat (first|(with_reducible first|apply X1|apply X2|apply X4|apply X8|apply Y1|apply Y2|apply Y4|apply Y6)|((with_reducible apply e_end);(simp;exact Red.rfl))|((with_reducible apply O1);rfl;(simp (disch:=omega) [hil2];exact Red.rfl);exact Red.rfl;(focus (first|(simp;done)|omega|(simp;omega))))|((with_reducible apply W3);(simp (disch:=omega) [hil2];exact Red.rfl)))
          exact q_again ⟨(h + 1, K), by dsimp only; omega⟩ (by dsimp only; omega) (.inl (by simp))
    · have hlt2 : ¬ (h : Int) < (c.hs.length : Int) + 1 := by omega
      repeat (first|(with_reducible first|apply X1|apply X2|apply X3|apply X4|apply X8|apply Y1|apply Y4|apply Y6)|((with_reducible apply e_end);(simp;exact Red.rfl))|((with_reducible apply O1);rfl;(simp (disch:=omega) [hlt2];exact Red.rfl);exact Red.rfl;(focus (first|(simp;done)|omega|(simp;omega))))|((with_reducible apply W3);(simp (disch:=omega) [hlt2];exact Red.rfl)))
      exact q_stay (.inr rfl) (by simp; exact Red.rfl) rfl
end Go.Proofs
