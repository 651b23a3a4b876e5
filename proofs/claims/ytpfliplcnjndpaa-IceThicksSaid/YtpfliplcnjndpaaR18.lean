/- Ice: whether a cover is valid, what is lost, how thick ice is, and how many sleds it bears: the law's contract. -/
import Derived.Test.YtpfliplcnjndpaaRB
namespace Go.Proofs
open Go.Abs
attribute [local simp] AOp.den AOpd.ev lk cellsOf rd_new rd_new0 rd_zero rd_succ wr_new wr_new0 wr_zero wr_succ splice fillA binA scal sliceCells List.length_append argsT AV.sc scL AObj.sc resV getAll AR.get AOp.slots opdSlots opdsSlots partSlots eqAt at_new0 at_new set_new0 set_new wrap64
set_option linter.unusedSimpArgs false
set_option linter.unusedVariables false
theorem chkE_ex (l : List Str) (c : Cv) : ∃ e, chkE l c e := by
  by_cases h1 : validL l
  · by_cases h2 : c.ok l.length
    · exact ⟨0, .inl ⟨h1, h2, rfl⟩⟩
    · exact ⟨20, .inr (.inr ⟨h1, h2, rfl⟩)⟩
  · exact ⟨10, .inr (.inl ⟨h1, rfl⟩)⟩
theorem loss_uniq {l : List Str} {c : Cv} {s h a b e a' b' e' : Int} (h1 : lossE l c s h a b e) (h2 : lossE l c s h a' b' e') : a = a' ∧ b = b' ∧ e = e' := by
  rcases h1 with ⟨p, q, r, rfl, rfl⟩ | ⟨x, y, z, rfl, rfl, rfl⟩ | ⟨x, y, z, rfl, rfl, rfl⟩ <;> rcases h2 with ⟨p', q', r', rfl, rfl⟩ | ⟨x', y', z', rfl, rfl, rfl⟩ | ⟨x', y', z', rfl, rfl, rfl⟩
  · exact ⟨rfl, rfl, chkE_uniq q q'⟩
  · exact absurd ⟨x', y'⟩ p
  · exact absurd ⟨x', y'⟩ p
  · exact absurd ⟨x, y⟩ p'
  · exact ⟨rfl, rfl, rfl⟩
  · exact absurd z' z
  · exact absurd ⟨x, y⟩ p'
  · exact absurd z z'
  · exact ⟨rfl, rfl, rfl⟩
theorem thick_uniq {l : List Str} {c : Cv} {n : Nat} {L : Nat → List Int} {s h a b e a' b' e' : Int} (h1 : thickE l c n L s h a b e) (h2 : thickE l c n L s h a' b' e') : a = a' ∧ b = b' ∧ e = e' := by
  rcases h1 with ⟨p, q, rfl, rfl⟩ | ⟨x, y, z, w, rfl, rfl, rfl⟩ | ⟨x, y, z, w, rfl, rfl, rfl⟩ <;> rcases h2 with ⟨p', q', rfl, rfl⟩ | ⟨x', y', z', w', rfl, rfl, rfl⟩ | ⟨x', y', z', w', rfl, rfl, rfl⟩
  · exact ⟨rfl, rfl, plE_uniq p p'⟩
  · exact absurd (plE_zero p x' y' z') q
  · exact absurd (plE_zero p x' y' z') q
  · exact absurd (plE_zero p' x y z) q'
  · exact ⟨rfl, rfl, rfl⟩
  · exact absurd w' w
  · exact absurd (plE_zero p' x y z) q'
  · exact absurd w w'
  · exact ⟨rfl, rfl, rfl⟩
theorem most_uniq {l : List Str} {c : Cv} {n : Nat} {L : Nat → List Int} {h a e a' e' : Int} (h1 : mostG l c n L h a e) (h2 : mostG l c n L h a' e') : a = a' ∧ e = e' := by
  rcases h1 with ⟨p, q, rfl⟩ | ⟨x, y, z, w, rfl, rfl⟩ | ⟨x, y, z, w, m⟩ <;> rcases h2 with ⟨p', q', rfl⟩ | ⟨x', y', z', w', rfl, rfl⟩ | ⟨x', y', z', w', m'⟩
  · exact ⟨rfl, plE_uniq p p'⟩
  · exact absurd (plE_zero p x' y' z') q
  · exact absurd (plE_zero p x' y' z') q
  · exact absurd (plE_zero p' x y z) q'
  · exact ⟨rfl, rfl⟩
  · exact absurd w' w
  · exact absurd (plE_zero p' x y z) q'
  · exact absurd w w'
  · rcases m with ⟨rfl, b, g, u⟩ | ⟨rfl, rfl, u⟩ <;> rcases m' with ⟨rfl, b', g', u'⟩ | ⟨rfl, rfl, u'⟩
    · refine ⟨?_, rfl⟩
      rcases Int.lt_trichotomy a a' with k | k | k
      · exact absurd g' (u a' k b'.2)
      · exact k
      · exact absurd g (u' a k b.2)
    · exact absurd g (u' a b.1 b.2)
    · exact absurd g' (u a' b'.1 b'.2)
    · exact ⟨rfl, rfl⟩
set_option maxHeartbeats 4000000 in
theorem c_lawThicks (H : Heap) (l : List Str) (c : Cv) (p : Plc) (n : Nat) (L : Nat → List Int) (pl : AV) (s h : Int) (hp : CvAt H c p) (ht : TrAt H l p) (_ : (l.length : Int) ≤ 9223372036854775807) (_ : (c.bs.length : Int) ≤ 9223372036854775807) (_ : (c.hs.length : Int) ≤ 9223372036854775807) (hpl : PlAt H pl n L) (_ : -9223372036854775808 ≤ s ∧ s ≤ 9223372036854775807) (_ : -9223372036854775808 ≤ h ∧ h ≤ 9223372036854775807) :
    ACalls Try.prog F.law02_IceThicks [.agg (c.av p), pl, .int .i64 s, .int .i64 h] H (fun v _ => v = .bool true) := by
  have hp1 := hp.t
  have hp2 := rd_lt hp.b
  have hp3 := rd_lt hp.h
  obtain ⟨b0, h0⟩ := bof (20 < p.tn ∨ 20 < c.bs.length ∨ 12 < c.hs.length ∨ 12 < n ∨ ∃ k, k < n ∧ 20 < (L k).length)
  have kg := fun G => c_r2Great (H ++ G) c p (hp.app G) pl n L (hpl.app G) h0
  have hpa := fun G => hp.app G
  have hta := fun G => ht.app G
  have hpla := fun G => hpl.app G
  obtain ⟨pid, poff, pex, rfl, hpid, hrow⟩ := hpl.get
  simp only [Cv.av] at kg
  refine acalls_of ok_law02_IceThicks rfl fun hcl => ?_
  unfold ac_law02_IceThicks
  simp only [argsT, Nat.zero_add, Nat.reduceAdd]
  simp only [Cv.av]
  repeat (first|(with_reducible first|apply X1|apply X2|apply X8)|((with_reducible apply e_end);(simp;exact Red.rfl))|((with_reducible apply O1);rfl;(simp (disch:=omega);exact Red.rfl);exact Red.rfl;(focus (first|(simp;done)|omega|(simp;omega)))))
  (with_reducible apply e_call); (simp; exact Red.rfl); exact kg _
  rintro _ _ ⟨rfl, rfl⟩
  cases b0 with
  | true =>
    repeat (first|(with_reducible first|apply X1|apply X2|apply X3|apply X8|apply X9)|((with_reducible apply e_end);(simp;exact Red.rfl))|((with_reducible apply O1);rfl;(simp (disch:=omega);exact Red.rfl);exact Red.rfl;(focus (first|(simp;done)|omega|(simp;omega))))|((with_reducible apply Z9);(simp (disch:=omega);exact Red.rfl)))
    exact q_stay (.inr rfl) (by simp; exact Red.rfl) rfl
  | false =>
  have hno : ¬ (20 < p.tn ∨ 20 < c.bs.length ∨ 12 < c.hs.length ∨ 12 < n ∨ ∃ k, k < n ∧ 20 < (L k).length) := fun h => by have := h0.2 h; cases this
  have ht20 : l.length ≤ 20 := by rw [← ht.n]; omega
  have hb20 : c.bs.length ≤ 20 := by omega
  have hh12 : c.hs.length ≤ 12 := by omega
  have hn12 : n ≤ 12 := by omega
  have hL20 : ∀ k, k < n → (L k).length ≤ 20 := fun k hk => by
    rcases Nat.lt_or_ge 20 (L k).length with h | h
    · exact absurd (.inr (.inr (.inr (.inr ⟨k, hk, h⟩)))) hno
    · exact h
  have hLb : ∀ k, k < n → ((L k).length : Int) < 1000000 := fun k hk => by have := hL20 k hk; omega
  have ktw := fun G => c_r2Twin (H ++ G) l c p (hpa G) (hta G) (by omega) (by omega) (by omega)
  have ktp := fun G => c_TwinPlan (H ++ G) _ n L (hpla G) hn12 hL20
  simp only [Cv.av, twP] at ktw
  repeat (first|(with_reducible first|apply X1|apply X2|apply X5|apply X8)|((with_reducible apply e_end);(simp;exact Red.rfl))|((with_reducible apply O1);rfl;(simp (disch:=omega);exact Red.rfl);exact Red.rfl;(focus (first|(simp;done)|omega|(simp;omega))))|((with_reducible apply W3);(simp (disch:=omega);exact Red.rfl)))
  (with_reducible apply e_call); (simp; exact Red.rfl); exact ktw _
  rintro _ _ ⟨rfl, rfl⟩
  repeat ((with_reducible apply O1);rfl;(simp (disch:=omega);exact Red.rfl);exact Red.rfl;(focus (first|(simp;done)|omega|(simp;omega))))
  (with_reducible apply e_call); (simp; exact Red.rfl); exact ktp _
  rintro pl2 _ ⟨G, rfl, hpl2⟩
  repeat (first|(with_reducible first|apply X1|apply X2|apply X8)|((with_reducible apply e_end);(simp;exact Red.rfl))|((first|((with_reducible apply O1);rfl)|((with_reducible apply O2);rfl));(simp (disch:=omega);exact Red.rfl);exact Red.rfl;(focus (first|(simp;done)|omega|(simp;omega)))))
  refine gen_ops (fun t X => ∃ (q : Nat) (p2 : Plc) (pl2 : AV), t = [(33, .int .i64 h), (32, .int .i64 s), (31, .agg (c.av p2)), (1, .slice pid poff n 1 pex), (2, .int .i64 s), (3, .int .i64 h), (4, .ptr H.length 0), (9, .ptr q 0), (10, pl2)] ∧ CvAt X c p ∧ TrAt X l p ∧ PlAt X (.slice pid poff n 1 pex) n L ∧ CvAt X c p2 ∧ TrAt X l p2 ∧ PlAt X pl2 n L ∧ rd X H.length 0 10 = some (c.av p) ∧ rd X q 0 10 = some (c.av p2)) ?_ ?_
  · refine ⟨_, ⟨H.length + 1, 0, false, l.length, H.length + 1 + 1, 0, false, H.length + 1 + 2, 0, false⟩, pl2, by simp only [Cv.av]; rfl, hpa _, hta _, hpla _, ⟨by simp, ?_, ?_⟩, ⟨rfl, ?_⟩, ?_, ?_, ?_⟩
    · exact rd_full (b := true) (by simp [at_new, Nat.add_assoc]) (flat_len' Bd.av_length c.bs)
    · exact rd_full (b := true) (by simp [at_new, Nat.add_assoc]) (flat_len' Hr.av_length c.hs)
    · exact rd_full (b := true) (by simp [at_new, Nat.add_assoc]) (flat_len' Str.av_length l)
    · have := hpl2.app [.cells [.slice (H.length + 1) 0 l.length 9 false, .slice (H.length + 1 + 1) 0 c.bs.length 3 false, .slice (H.length + 1 + 2) 0 c.hs.length 5 false, .int .i64 c.w1, .int .i64 c.w2, .int .i64 c.y1, .int .i64 c.y2, .int .i64 c.rate, .int .i64 c.lim, .int .i64 c.base] true]
      simpa using this
    · simp [Cv.av]
    · simp [Cv.av, Nat.add_assoc]
  rintro _ X ⟨q, p2, pl2, rfl, hpX, htX, hplX, hpY, htY, hplY, hbX, hbY⟩
  clear hpl2 ktw ktp kg hpa hta hpla
  have hbL := rd_lt hbX
  have hqL := rd_lt hbY
  have kO := fun G => c_iLossG (X ++ G) l c p2 (hpY.app G) (htY.app G) (by omega) (by omega) (by omega) s h
  have kO2 := fun G => c_r2LossG (X ++ G) l c p (hpX.app G) (htX.app G) (by omega) (by omega) (by omega) s h
  have kT := fun G => c_iThickG (X ++ G) l c p2 (hpY.app G) (htY.app G) (by omega) (by omega) (by omega) pl2 n L (hplY.app G) hLb (by omega) s h
  have kT2 := fun G => c_r2ThickG (X ++ G) l c p (hpX.app G) (htX.app G) (by omega) (by omega) (by omega) _ n L (hplX.app G) hLb (by omega) s h
  have kM := fun G => c_iMostG (X ++ G) l c p2 (hpY.app G) (htY.app G) (by omega) (by omega) (by omega) pl2 n L (hplY.app G) hLb (by omega) h
  have kM2 := fun G => c_r2MostG (X ++ G) l c p (hpX.app G) (htX.app G) (by omega) (by omega) (by omega) _ n L (hplX.app G) hLb (by omega) h
  have kE := fun G => c_r2Same (X ++ G) l c p2 p (hpY.app G) (hpX.app G) (htY.app G) (htX.app G) (by omega) (by omega) (by omega)
  have kL := fun G => c_r2SameLists (X ++ G) pl2 _ n L (hplY.app G) (hplX.app G) (by omega) hLb
  obtain ⟨e0, he0⟩ := chkE_ex l c
  have kC : ∀ G, ACalls Try.prog F.ice_Check [.agg (c.av p2)] (X ++ G) (fun v h' => v = .int .i64 e0 ∧ h' = X ++ G) := fun G => (c_iCheck (X ++ G) l c p2 (hpY.app G) (htY.app G) (by omega) (by omega) (by omega)).mono (by rintro _ _ ⟨rfl, e, rfl, he⟩; exact ⟨by rw [chkE_uniq he he0], rfl⟩)
  have kC2 : ∀ G, ACalls Try.prog F.ref02_Check [.agg (c.av p)] (X ++ G) (fun v h' => v = .int .i64 e0 ∧ h' = X ++ G) := fun G => (c_r2Check (X ++ G) l c p (hpX.app G) (htX.app G) (by omega) (by omega) (by omega)).mono (by rintro _ _ ⟨rfl, e, rfl, he⟩; exact ⟨by rw [chkE_uniq he he0], rfl⟩)
  have y1 := hpY.t
  have y2 := rd_lt hpY.b
  have y3 := rd_lt hpY.h
  have x1 := hpX.t
  have x2 := rd_lt hpX.b
  have x3 := rd_lt hpX.h
  obtain ⟨pid2, poff2, pex2, rfl, hpid2, _⟩ := hplY.get
  obtain ⟨_, _, _, epl, hpidX, _⟩ := hplX.get
  cases epl
  have kO0 := kO []
  rw [List.append_nil] at kO0
  simp only [Cv.av] at kO2 kT kT2 kM kM2 kE kC kC2 hbX hbY
  (with_reducible apply e_call); (simp; exact Red.rfl); exact kO0
  rintro _ hqh ⟨hqe, lo1, hi1, e1, rfl, hA⟩
  rw [hqe]; clear hqe hqh
  repeat (first|(with_reducible first|apply X1|apply X2|apply X8)|((with_reducible apply e_end);(simp;exact Red.rfl))|((first|((with_reducible apply O1);rfl)|((with_reducible apply O2);rfl));(simp (disch:=omega) [rd_old _ hbL, hbX];exact Red.rfl);exact Red.rfl;(focus (first|(simp;done)|omega|(simp;omega)))))
  (with_reducible apply e_call); (simp; exact Red.rfl); exact kO2 _
  rintro _ hqh ⟨hqe, lo2, hi2, e2, rfl, hA2⟩
  rw [hqe]; clear hqe hqh
  obtain ⟨rfl, rfl, rfl⟩ := loss_uniq hA hA2
  repeat (first|(with_reducible first|apply X1|apply X2|apply X8)|((with_reducible apply e_end);(simp;exact Red.rfl))|((first|((with_reducible apply O1);rfl)|((with_reducible apply O2);rfl));(simp (disch:=omega) [rd_old _ hqL, hbY];exact Red.rfl);exact Red.rfl;(focus (first|(simp;done)|omega|(simp;omega)))))
  (with_reducible apply e_call); (simp; exact Red.rfl); exact kT _
  rintro _ hqh ⟨hqe, lo3, hi3, e3, rfl, hB⟩
  rw [hqe]; clear hqe hqh
  repeat (first|(with_reducible first|apply X1|apply X2|apply X8)|((with_reducible apply e_end);(simp;exact Red.rfl))|((first|((with_reducible apply O1);rfl)|((with_reducible apply O2);rfl));(simp (disch:=omega) [rd_old _ hbL, hbX];exact Red.rfl);exact Red.rfl;(focus (first|(simp;done)|omega|(simp;omega)))))
  (with_reducible apply e_call); (simp; exact Red.rfl); exact kT2 _
  rintro _ hqh ⟨hqe, lo4, hi4, e4, rfl, hB2⟩
  rw [hqe]; clear hqe hqh
  obtain ⟨rfl, rfl, rfl⟩ := thick_uniq hB hB2
  repeat (first|(with_reducible first|apply X1|apply X2|apply X8)|((with_reducible apply e_end);(simp;exact Red.rfl))|((first|((with_reducible apply O1);rfl)|((with_reducible apply O2);rfl));(simp (disch:=omega) [rd_old _ hqL, hbY];exact Red.rfl);exact Red.rfl;(focus (first|(simp;done)|omega|(simp;omega)))))
  (with_reducible apply e_call); (simp; exact Red.rfl); exact kM _
  rintro _ hqh ⟨hqe, m1, e5, rfl, hC⟩
  rw [hqe]; clear hqe hqh
  repeat (first|(with_reducible first|apply X1|apply X2|apply X8)|((with_reducible apply e_end);(simp;exact Red.rfl))|((with_reducible apply O1);rfl;(simp (disch:=omega) [rd_old _ hbL, hbX];exact Red.rfl);exact Red.rfl;(focus (first|(simp;done)|omega|(simp;omega)))))
  (with_reducible apply e_call); (simp; exact Red.rfl); exact kM2 _
  rintro _ hqh ⟨hqe, m2, e6, rfl, hC2⟩
  rw [hqe]; clear hqe hqh
  obtain ⟨rfl, rfl⟩ := most_uniq hC hC2
  repeat (first|(with_reducible first|apply X1|apply X8|apply Y9)|((with_reducible apply e_end);(simp;exact Red.rfl))|((first|((with_reducible apply O1);rfl)|((with_reducible apply P2);rfl));(simp (disch:=omega) [rd_old _ hqL, hbY];exact Red.rfl);exact Red.rfl;(focus (first|(simp;done)|omega|(simp;omega)))))
  (with_reducible apply d_call); (simp; exact Red.rfl); exact kC _; (focus (first | (simp; done) | (simp; omega)))
  repeat ((with_reducible apply P6);rfl;(simp (disch:=omega) [rd_old _ hbL, hbX];exact Red.rfl);exact Red.rfl;(focus (first|(simp [pr];done)|(simp [pr];omega))))
  (with_reducible apply d_call); (simp; exact Red.rfl); exact kC2 _; (focus (first | (simp; done) | (simp; omega)))
  repeat (first|((first|((with_reducible apply P1);rfl)|((with_reducible apply P2);rfl));(simp (disch:=omega) [rd_old _ hqL, hbY, rd_old _ hbL, hbX];exact Red.rfl);exact Red.rfl;(focus (first|(simp;done)|omega|(simp;omega))))|((with_reducible apply Z8);(simp (disch:=omega) [rd_old _ hqL, hbY, rd_old _ hbL, hbX];exact Red.rfl)))
  (with_reducible apply d_call); (simp; exact Red.rfl); exact kE _; (focus (first | (simp; done) | (simp; omega)))
  repeat (first|((with_reducible apply P1);rfl;(simp (disch:=omega);exact Red.rfl);exact Red.rfl;(focus (first|(simp;done)|omega|(simp;omega))))|((with_reducible apply Z8);(simp (disch:=omega);exact Red.rfl)))
  (with_reducible apply d_call); (simp; exact Red.rfl); exact kL _; (focus (first | (simp; done) | (simp; omega)))
  repeat (first|(with_reducible first|apply X3|apply X8)|((with_reducible apply d_end);(simp;exact Red.rfl))|((with_reducible apply P1);rfl;(simp (disch:=omega);exact Red.rfl);exact Red.rfl;(focus (first|(simp;done)|omega|(simp;omega)))))
  exact q_stay (.inr rfl) (by simp; exact Red.rfl) rfl
end Go.Proofs
