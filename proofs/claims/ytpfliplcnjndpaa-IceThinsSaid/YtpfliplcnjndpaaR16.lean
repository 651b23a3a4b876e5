/- Ice: what is too thin, safe, and water: the law's contract. -/
import Derived.Test.YtpfliplcnjndpaaRB
import Derived.Test.YtpfliplcnjndpaaRunIceAlive
import Derived.Test.YtpfliplcnjndpaaRA
namespace Go.Proofs
open Go.Abs
attribute [local simp] AOp.den AOpd.ev lk cellsOf rd_new rd_new0 rd_zero rd_succ wr_new wr_new0 wr_zero wr_succ splice fillA binA scal sliceCells List.length_append argsT AV.sc scL AObj.sc resV getAll AR.get AOp.slots opdSlots opdsSlots partSlots eqAt at_new0 at_new set_new0 set_new wrap64
set_option linter.unusedSimpArgs false
set_option linter.unusedVariables false
theorem chkE_uniq {l : List Str} {c : Cv} {e f : Int} (h : chkE l c e) (h' : chkE l c f) : e = f := by
  rcases h with ⟨a, b, rfl⟩ | ⟨a, rfl⟩ | ⟨a, b, rfl⟩ <;> rcases h' with ⟨a', b', rfl⟩ | ⟨a', rfl⟩ | ⟨a', b', rfl⟩ <;> first | rfl | contradiction
theorem plE_uniq {l : List Str} {c : Cv} {n : Nat} {L : Nat → List Int} {e f : Int} (h : plE l c n L e) (h' : plE l c n L f) : e = f := by
  rcases h with ⟨a, b, d, rfl⟩ | ⟨a, b, d⟩ | ⟨a, b, d, rfl⟩ <;> rcases h' with ⟨a', b', d', rfl⟩ | ⟨a', b', d'⟩ | ⟨a', b', d', rfl⟩
  · rfl
  · exact absurd ⟨a, b⟩ a'
  · exact absurd d d'
  · exact absurd ⟨a', b'⟩ a
  · exact chkE_uniq b b'
  · exact absurd ⟨a', b'⟩ a
  · exact absurd d' d
  · exact absurd ⟨a, b⟩ a'
  · rfl
theorem plE_zero {l : List Str} {c : Cv} {n : Nat} {L : Nat → List Int} {e : Int} (h : plE l c n L e) (h1 : validL l) (h2 : c.ok l.length) (h3 : n = c.hs.length ∧ okPl c L) : e = 0 := by
  rcases h with ⟨_, _, _, rfl⟩ | ⟨a, _⟩ | ⟨_, _, a, _⟩
  · rfl
  · exact absurd ⟨h1, h2⟩ a
  · exact absurd h3 a
theorem water_uniq {l : List Str} {c : Cv} {n : Nat} {L : Nat → List Int} {a b e a' b' e' : Int} (h : waterG l c n L a b e) (h' : waterG l c n L a' b' e') : a = a' ∧ b = b' ∧ e = e' := by
  rcases h with ⟨p, q, rfl, rfl⟩ | ⟨x, y, z, rfl, rfl, rfl⟩ <;> rcases h' with ⟨p', q', rfl, rfl⟩ | ⟨x', y', z', rfl, rfl, rfl⟩
  · exact ⟨rfl, rfl, plE_uniq p p'⟩
  · exact absurd (plE_zero p x' y' z') q
  · exact absurd (plE_zero p' x y z) q'
  · exact ⟨rfl, rfl, rfl⟩
def thinE (l : List Str) (c : Cv) (n : Nat) (L : Nat → List Int) (T : List (Int × Int)) (e : Int) : Prop :=
  (plE l c n L e ∧ e ≠ 0 ∧ T = []) ∨ (validL l ∧ c.ok l.length ∧ (n = c.hs.length ∧ okPl c L) ∧ e = 0 ∧ T = thP c (endT true c) (inP L) c.hs.length)
def safeE (l : List Str) (c : Cv) (n : Nat) (L : Nat → List Int) (k e : Int) : Prop :=
  (plE l c n L e ∧ e ≠ 0 ∧ k = 0) ∨ (validL l ∧ c.ok l.length ∧ (n = c.hs.length ∧ okPl c L) ∧ e = 0 ∧ k = safeF c L)
theorem thin_uniq {l : List Str} {c : Cv} {n : Nat} {L : Nat → List Int} {T T' : List (Int × Int)} {e e' : Int} (h : thinE l c n L T e) (h' : thinE l c n L T' e') : T = T' ∧ e = e' := by
  rcases h with ⟨p, q, rfl⟩ | ⟨x, y, z, rfl, rfl⟩ <;> rcases h' with ⟨p', q', rfl⟩ | ⟨x', y', z', rfl, rfl⟩
  · exact ⟨rfl, plE_uniq p p'⟩
  · exact absurd (plE_zero p x' y' z') q
  · exact absurd (plE_zero p' x y z) q'
  · exact ⟨rfl, rfl⟩
theorem safe_uniq {l : List Str} {c : Cv} {n : Nat} {L : Nat → List Int} {T T' e e' : Int} (h : safeE l c n L T e) (h' : safeE l c n L T' e') : T = T' ∧ e = e' := by
  rcases h with ⟨p, q, rfl⟩ | ⟨x, y, z, rfl, rfl⟩ <;> rcases h' with ⟨p', q', rfl⟩ | ⟨x', y', z', rfl, rfl⟩
  · exact ⟨rfl, plE_uniq p p'⟩
  · exact absurd (plE_zero p x' y' z') q
  · exact absurd (plE_zero p' x y z) q'
  · exact ⟨rfl, rfl⟩
theorem thin_len {l : List Str} {c : Cv} {n : Nat} {L : Nat → List Int} {T : List (Int × Int)} {e : Int} (h : thinE l c n L T e) : (T.length : Int) < 1000000 := by
  rcases h with ⟨p, q, rfl⟩ | ⟨x, y, z, rfl, rfl⟩
  · simp
  · have h1 := thP_len c (endT true c) (inP L) c.hs.length
    have h2 : c.hs.length * c.bs.length ≤ 8 * 12 := Nat.mul_le_mul y.hours.2 (by have := y.len; have := x.1.2; omega)
    omega
def thinR (H : Heap) (l : List Str) (c : Cv) (n : Nat) (L : Nat → List Int) (v : AV) (h' : Heap) : Prop := ∃ (a : AV) (T : List (Int × Int)) (G : Heap) (e : Int), v = .tuple [a, .int .i64 e] ∧ h' = H ++ G ∧ RAt h' 2 a (pv T) T.length ∧ thinE l c n L T e
theorem thinR_of {H : Heap} {l : List Str} {c : Cv} {n : Nat} {L : Nat → List Int} {v : AV} {h' : Heap} (h : (∃ e : Int, plE l c n L e ∧ e ≠ 0 ∧ v = .tuple [.nilslice, .int .i64 e] ∧ h' = H) ∨
      (validL l ∧ c.ok l.length ∧ (n = c.hs.length ∧ okPl c L) ∧ v = .tuple [lsV H 2 (thP c (endT true c) (inP L) c.hs.length).length, .int .i64 0] ∧ h' = H ++ lsO (thP c (endT true c) (inP L) c.hs.length).length (pv (thP c (endT true c) (inP L) c.hs.length)))) : thinR H l c n L v h' := by
  rcases h with ⟨e, h1, h2, rfl, rfl⟩ | ⟨hv, hc, hn, rfl, rfl⟩
  · exact ⟨_, [], [], e, rfl, by simp, ⟨by simp [pv], .inl ⟨rfl, rfl⟩⟩, .inl ⟨h1, h2, rfl⟩⟩
  · exact ⟨_, _, _, 0, rfl, rfl, (ls_at H (pv_length _)).l.r, .inr ⟨hv, hc, hn, rfl, rfl⟩⟩
set_option maxHeartbeats 4000000 in
theorem c_lawThins (H : Heap) (l : List Str) (c : Cv) (p : Plc) (n : Nat) (L : Nat → List Int) (pl : AV) (hp : CvAt H c p) (ht : TrAt H l p) (_ : (l.length : Int) ≤ 9223372036854775807) (_ : (c.bs.length : Int) ≤ 9223372036854775807) (_ : (c.hs.length : Int) ≤ 9223372036854775807) (hpl : PlAt H pl n L) :
    ACalls Try.prog F.law02_IceThins [.agg (c.av p), pl] H (fun v _ => v = .bool true) := by
  have hp1 := hp.t
  have hp2 := rd_lt hp.b
  have hp3 := rd_lt hp.h
  obtain ⟨b0, h0⟩ := bof (20 < p.tn ∨ 20 < c.bs.length ∨ 12 < c.hs.length ∨ 12 < n ∨ ∃ k, k < n ∧ 20 < (L k).length)
  have kg := fun G => c_r2Great (H ++ G) c p (hp.app G) pl n L (hpl.app G) h0
  have hpa := fun G => hp.app G
  have hta := fun G => ht.app G
  have hpla := fun G => hpl.app G
  obtain ⟨pid, poff, pex, rfl, hpid, hrow⟩ := hpl.get
  simp only [Cv.av] at kg
  refine acalls_of ok_law02_IceThins rfl fun hcl => ?_
  unfold ac_law02_IceThins
  simp only [argsT, Nat.zero_add, Nat.reduceAdd]
  simp only [Cv.av]
  repeat (first|(with_reducible first|apply X1|apply X2|apply X8)|((with_reducible apply e_end);(simp;exact Red.rfl))|((with_reducible apply O1);rfl;(simp (disch:=omega);exact Red.rfl);exact Red.rfl;(focus (first|(simp;done)|omega|(simp;omega)))))
  (with_reducible apply e_call); (simp; exact Red.rfl); exact kg _
  rintro _ _ ⟨rfl, rfl⟩
  cases b0 with
  | true =>
    repeat (first|(with_reducible first|apply X1|apply X2|apply X3|apply X8|apply X9)|((with_reducible apply e_end);(simp;exact Red.rfl))|((with_reducible apply O1);rfl;(simp (disch:=omega);exact Red.rfl);exact Red.rfl;(focus (first|(simp;done)|omega|(simp;omega))))|((with_reducible apply Z9);(simp (disch:=omega);exact Red.rfl)))
    exact q_stay (.inr rfl) (by simp; exact Red.rfl) rfl
  | false =>
  have hno : ¬ (20 < p.tn ∨ 20 < c.bs.length ∨ 12 < c.hs.length ∨ 12 < n ∨ ∃ k, k < n ∧ 20 < (L k).length) := fun h => by have := h0.2 h; cases this
  have ht20 : l.length ≤ 20 := by rw [← ht.n]; omega
  have hb20 : c.bs.length ≤ 20 := by omega
  have hh12 : c.hs.length ≤ 12 := by omega
  have hn12 : n ≤ 12 := by omega
  have hL20 : ∀ k, k < n → (L k).length ≤ 20 := fun k hk => by
    rcases Nat.lt_or_ge 20 (L k).length with h | h
    · exact absurd (.inr (.inr (.inr (.inr ⟨k, hk, h⟩)))) hno
    · exact h
  have hLb : ∀ k, k < n → ((L k).length : Int) < 1000000 := fun k hk => by have := hL20 k hk; omega
  have ktw := fun G => c_r2Twin (H ++ G) l c p (hpa G) (hta G) (by omega) (by omega) (by omega)
  have ktp := fun G => c_TwinPlan (H ++ G) _ n L (hpla G) hn12 hL20
  simp only [Cv.av, twP] at ktw
  repeat (first|(with_reducible first|apply X1|apply X2|apply X5|apply X8)|((with_reducible apply e_end);(simp;exact Red.rfl))|((with_reducible apply O1);rfl;(simp (disch:=omega);exact Red.rfl);exact Red.rfl;(focus (first|(simp;done)|omega|(simp;omega))))|((with_reducible apply W3);(simp (disch:=omega);exact Red.rfl)))
  (with_reducible apply e_call); (simp; exact Red.rfl); exact ktw _
  rintro _ _ ⟨rfl, rfl⟩
  repeat ((with_reducible apply O1);rfl;(simp (disch:=omega);exact Red.rfl);exact Red.rfl;(focus (first|(simp;done)|omega|(simp;omega))))
  (with_reducible apply e_call); (simp; exact Red.rfl); exact ktp _
  rintro pl2 _ ⟨G, rfl, hpl2⟩
  repeat (first|(with_reducible first|apply X1|apply X2|apply X8)|((with_reducible apply e_end);(simp;exact Red.rfl))|((first|((with_reducible apply O1);rfl)|((with_reducible apply O2);rfl));(simp (disch:=omega);exact Red.rfl);exact Red.rfl;(focus (first|(simp;done)|omega|(simp;omega)))))
  refine gen_ops (fun t X => ∃ (q : Nat) (p2 : Plc) (pl2 : AV), t = [(28, pl2), (27, .agg (c.av p2)), (1, .slice pid poff n 1 pex), (2, .ptr H.length 0), (5, .ptr q 0), (6, pl2)] ∧ CvAt X c p ∧ TrAt X l p ∧ PlAt X (.slice pid poff n 1 pex) n L ∧ CvAt X c p2 ∧ TrAt X l p2 ∧ PlAt X pl2 n L ∧ rd X H.length 0 10 = some (c.av p) ∧ rd X q 0 10 = some (c.av p2)) ?_ ?_
  · refine ⟨_, ⟨H.length + 1, 0, false, l.length, H.length + 1 + 1, 0, false, H.length + 1 + 2, 0, false⟩, pl2, by simp only [Cv.av]; rfl, hpa _, hta _, hpla _, ⟨by simp, ?_, ?_⟩, ⟨rfl, ?_⟩, ?_, ?_, ?_⟩
    · exact rd_full (b := true) (by simp [at_new, Nat.add_assoc]) (flat_len' Bd.av_length c.bs)
    · exact rd_full (b := true) (by simp [at_new, Nat.add_assoc]) (flat_len' Hr.av_length c.hs)
    · exact rd_full (b := true) (by simp [at_new, Nat.add_assoc]) (flat_len' Str.av_length l)
    · have := hpl2.app [.cells [.slice (H.length + 1) 0 l.length 9 false, .slice (H.length + 1 + 1) 0 c.bs.length 3 false, .slice (H.length + 1 + 2) 0 c.hs.length 5 false, .int .i64 c.w1, .int .i64 c.w2, .int .i64 c.y1, .int .i64 c.y2, .int .i64 c.rate, .int .i64 c.lim, .int .i64 c.base] true]
      simpa using this
    · simp [Cv.av]
    · simp [Cv.av, Nat.add_assoc]
  rintro _ X ⟨q, p2, pl2, rfl, hpX, htX, hplX, hpY, htY, hplY, hbX, hbY⟩
  clear hpl2 ktw ktp kg hpa hta hpla
  have hbL := rd_lt hbX
  have hqL := rd_lt hbY
  have kT := fun G => (c_iThinG (X ++ G) l c p2 (hpY.app G) (htY.app G) (by omega) (by omega) (by omega) pl2 n L (hplY.app G) hLb (by omega)).mono fun v h' h => thinR_of h
  have kT2 := fun G => (c_r2ThinG (X ++ G) l c p (hpX.app G) (htX.app G) (by omega) (by omega) (by omega) _ n L (hplX.app G) hLb (by omega)).mono fun v h' h => thinR_of h
  have kS := fun G => c_iSafeG (X ++ G) l c p2 (hpY.app G) (htY.app G) (by omega) (by omega) (by omega) pl2 n L (hplY.app G) hLb (by omega)
  have kS2 := fun G => c_r2SafeG (X ++ G) l c p (hpX.app G) (htX.app G) (by omega) (by omega) (by omega) _ n L (hplX.app G) hLb (by omega)
  have kW := fun G => c_iWaterG (X ++ G) l c p2 (hpY.app G) (htY.app G) (by omega) (by omega) (by omega) pl2 n L (hplY.app G) hLb (by omega)
  have kW2 := fun G => c_r2WaterG (X ++ G) l c p (hpX.app G) (htX.app G) (by omega) (by omega) (by omega) _ n L (hplX.app G) hLb (by omega)
  have kE := fun G => c_r2Same (X ++ G) l c p2 p (hpY.app G) (hpX.app G) (htY.app G) (htX.app G) (by omega) (by omega) (by omega)
  have kL := fun G => c_r2SameLists (X ++ G) pl2 _ n L (hplY.app G) (hplX.app G) (by omega) hLb
  have kT0 := kT []
  rw [List.append_nil] at kT0
  simp only [Cv.av] at kT2 kS kS2 kW kW2 kE hbX hbY
  (with_reducible apply e_call); (simp; exact Red.rfl); exact kT0
  rintro _ hqh ⟨a, T, G1, e1, rfl, hqe, hTa, hTe⟩
  subst hqe
  repeat (first|(with_reducible first|apply X1|apply X2|apply X8)|((with_reducible apply e_end);(simp;exact Red.rfl))|((with_reducible apply O1);rfl;(simp (disch:=omega) [rd_old _ hbL, hbX];exact Red.rfl);exact Red.rfl;(focus (first|(simp;done)|omega|(simp;omega)))))
  (with_reducible apply e_call); (simp; exact Red.rfl); exact kT2 _
  rintro _ hqh ⟨b, T2, G2, e2, rfl, hqe, hTb, hTe2⟩
  subst hqe
  obtain ⟨rfl, rfl⟩ := thin_uniq hTe hTe2
  have hTa2 := RAt.app hTa G2
  simp only [List.append_assoc] at hTa2 hTb
  repeat (first|(with_reducible first|apply X1|apply X2|apply X8)|((with_reducible apply e_end);(simp;exact Red.rfl))|((with_reducible apply O1);rfl;(simp (disch:=omega) [rd_old _ hqL, hbY];exact Red.rfl);exact Red.rfl;(focus (first|(simp;done)|omega|(simp;omega)))))
  (with_reducible apply e_call); (simp; exact Red.rfl); exact kS _
  rintro _ hqh ⟨hqe, k1, e3, rfl, hS⟩
  rw [hqe]; clear hqe hqh
  repeat (first|(with_reducible first|apply X1|apply X2|apply X8)|((with_reducible apply e_end);(simp;exact Red.rfl))|((with_reducible apply O1);rfl;(simp (disch:=omega) [rd_old _ hbL, hbX];exact Red.rfl);exact Red.rfl;(focus (first|(simp;done)|omega|(simp;omega)))))
  (with_reducible apply e_call); (simp; exact Red.rfl); exact kS2 _
  rintro _ hqh ⟨hqe, k2, e4, rfl, hS2⟩
  rw [hqe]; clear hqe hqh
  obtain ⟨rfl, rfl⟩ := safe_uniq hS hS2
  repeat (first|(with_reducible first|apply X1|apply X2|apply X8)|((with_reducible apply e_end);(simp;exact Red.rfl))|((with_reducible apply O1);rfl;(simp (disch:=omega) [rd_old _ hqL, hbY];exact Red.rfl);exact Red.rfl;(focus (first|(simp;done)|omega|(simp;omega)))))
  (with_reducible apply e_call); (simp; exact Red.rfl); exact kW _
  rintro _ hqh ⟨hqe, lo1, hi1, e5, rfl, hW⟩
  rw [hqe]; clear hqe hqh
  repeat (first|(with_reducible first|apply X1|apply X2|apply X8)|((with_reducible apply e_end);(simp;exact Red.rfl))|((first|((with_reducible apply O1);rfl)|((with_reducible apply O2);rfl));(simp (disch:=omega) [rd_old _ hbL, hbX];exact Red.rfl);exact Red.rfl;(focus (first|(simp;done)|omega|(simp;omega)))))
  (with_reducible apply e_call); (simp; exact Red.rfl); exact kW2 _
  rintro _ hqh ⟨hqe, lo2, hi2, e6, rfl, hW2⟩
  rw [hqe]; clear hqe hqh
  obtain ⟨rfl, rfl, rfl⟩ := water_uniq hW hW2
  have kP := fun G => c_r2SamePairs (X ++ (G1 ++ (G2 ++ G))) a b T (by have := RAt.app hTa2 G; simpa using this) (by have := RAt.app hTb G; simpa using this) (thin_len hTe)
  repeat (first|(with_reducible first|apply X1|apply X2|apply X8)|((with_reducible apply e_end);(simp;exact Red.rfl))|((first|((with_reducible apply O1);rfl)|((with_reducible apply O2);rfl));(simp (disch:=omega);exact Red.rfl);exact Red.rfl;(focus (first|(simp;done)|omega|(simp;omega)))))
  (with_reducible apply e_call); (simp; exact Red.rfl); exact kP _
  rintro _ _ ⟨rfl, rfl⟩
  repeat (first|((with_reducible apply O1);rfl;(simp (disch:=omega) [rd_old _ hqL, hbY, rd_old _ hbL, hbX];exact Red.rfl);exact Red.rfl;(focus (first|(simp;done)|omega|(simp;omega))))|((with_reducible apply Z7);(simp (disch:=omega) [rd_old _ hqL, hbY, rd_old _ hbL, hbX];exact Red.rfl)))
  (with_reducible apply e_call); (simp; exact Red.rfl); exact kE _
  rintro _ _ ⟨rfl, rfl⟩
  repeat (first|((with_reducible apply O1);rfl;(simp (disch:=omega);exact Red.rfl);exact Red.rfl;(focus (first|(simp;done)|omega|(simp;omega))))|((with_reducible apply Z7);(simp (disch:=omega);exact Red.rfl)))
  (with_reducible apply e_call); (simp; exact Red.rfl); exact kL _
  rintro _ _ ⟨rfl, rfl⟩
  repeat (first|(with_reducible first|apply X3|apply X8)|((with_reducible apply e_end);(simp;exact Red.rfl))|((with_reducible apply O1);rfl;(simp (disch:=omega);exact Red.rfl);exact Red.rfl;(focus (first|(simp;done)|omega|(simp;omega)))))
  exact q_stay (.inr rfl) (by simp; exact Red.rfl) rfl
end Go.Proofs
