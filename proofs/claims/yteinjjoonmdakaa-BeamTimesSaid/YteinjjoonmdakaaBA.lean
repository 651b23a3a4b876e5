/- Several texts as one. -/
import Derived.Test.YteinjjoonmdakaaCC
import Derived.Test.YteinjjoonmdakaaDD
import Derived.Test.YteinjjoonmdakaaAc1
/- Small functions of package beam. -/
namespace Go.Proofs
open Go.Abs
attribute [local simp] AOp.den AOpd.ev lk cellsOf rd_new rd_new0 rd_zero rd_succ wr_new wr_new0 wr_zero wr_succ splice fillA binA scal sliceCells List.length_append argsT AV.sc scL AObj.sc resV getAll AR.get AOp.slots opdSlots opdsSlots partSlots eqAt at_new0 at_new set_new0 set_new wrap64
set_option linter.unusedSimpArgs false
set_option linter.unusedVariables false
theorem c_around (H : Heap) (n : Int) (h : 0 ≤ n ∧ n ≤ 1000000000000) : ACalls Try.prog F.span_Around [.int .i64 n] H (fun v h' => v = .agg [.int .i64 (-n), .int .i64 n] ∧ h' = H) := by
  refine acalls_of ok_span_Around rfl fun hcl => ?_
  unfold ac_span_Around
  simp only [argsT, Nat.zero_add, Nat.reduceAdd]
  have hneg : IntKind.i64.wrap (0 - n) = -n := by rw [wrap64] <;> omega
  repeat (first|(with_reducible first|apply X1|apply X2|apply X3|apply X8)|((with_reducible apply e_end);(simp;exact Red.rfl))|((first|((with_reducible apply O1);rfl)|((with_reducible apply O2);rfl));(simp (disch:=omega) [hneg];exact Red.rfl);exact Red.rfl;(focus (first|(simp;done)|omega|(simp;omega)))))
  refine q_drop (.inr rfl) (by simp; exact Red.rfl) (by simp) ⟨rfl, rfl⟩
theorem c_day (H : Heap) : ACalls Try.prog F.beam_day [] H (fun v h' => v = .agg [.int .i64 0, .int .i64 86400000] ∧ h' = H) := by
  refine acalls_of ok_beam_day rfl fun hcl => ?_
  unfold ac_beam_day
  simp only [argsT, Nat.zero_add, Nat.reduceAdd]
  repeat (first|(with_reducible first|apply X1|apply X2|apply X8)|((with_reducible apply e_end);(simp;exact Red.rfl))|((with_reducible apply O1);rfl;(simp (disch:=omega);exact Red.rfl);exact Red.rfl;(focus (first|(simp;done)|omega|(simp;omega)))))
  (with_reducible apply e_call); (simp; exact Red.rfl); exact c_upto _ _
  rintro _ _ ⟨rfl, rfl⟩
  repeat (first|(with_reducible first|apply X3|apply X8)|((with_reducible apply e_end);(simp;exact Red.rfl))|((with_reducible apply O2);rfl;(simp (disch:=omega);exact Red.rfl);exact Red.rfl;(focus (first|(simp;done)|omega|(simp;omega)))))
  refine q_drop (.inr rfl) (by simp; exact Red.rfl) (by simp) ⟨rfl, rfl⟩
def slLen (v : AV) (n : Nat) : Prop := (v = .nilslice ∧ n = 0) ∨ ∃ id off sz ex, v = .slice id off n sz ex
theorem den_sl {ev : AOpd → AV} {x : AOpd} {h : Heap} {v : AV} {n : Nat} (hx : ev x = v) (hl : slLen v n) : (AOp.len x).den ev h = .ok True (.int .i64 n) h := by
  rcases hl with ⟨rfl, rfl⟩ | ⟨id, off, sz, ex, rfl⟩ <;> simp [AOp.den, AOp.fx, hx]
theorem slLen.scal {v : AV} {n : Nat} (hl : slLen v n) : scal v = true := by
  rcases hl with ⟨rfl, _⟩ | ⟨id, off, sz, ex, rfl⟩ <;> rfl
theorem slLen.cells {v : AV} {n : Nat} (hl : slLen v n) : cellsOf v = some [v] := by
  rcases hl with ⟨rfl, _⟩ | ⟨id, off, sz, ex, rfl⟩ <;> rfl
theorem c_indC (H : Heap) (v : AV) (n : Nat) (hl : slLen v n) (hn : n ≤ 1000000) : ACalls Try.prog F.beam_indices_api_Clock [v] H (fun v h' => v = .agg [.int .i64 0, .int .i64 ((n : Int) - 1)] ∧ h' = H) := by
  refine acalls_of ok_beam_indices_api_Clock rfl fun hcl => ?_
  unfold ac_beam_indices_api_Clock
  simp only [argsT, Nat.zero_add, Nat.reduceAdd]
  repeat (first|(with_reducible first|apply X1|apply X2|apply X8)|((with_reducible apply e_end);(simp;exact Red.rfl))|((with_reducible apply O1);rfl;(simp (disch:=omega);exact Red.rfl);exact Red.rfl;(focus (first|(simp;done)|omega|(simp;omega)))))
  (with_reducible apply e_op); rfl; exact den_sl (by simp) hl; exact Red.rfl; trivial
  repeat ((with_reducible apply O1);rfl;(simp (disch:=omega);exact Red.rfl);exact Red.rfl;(focus (first|(simp;done)|omega|(simp;omega))))
  (with_reducible apply e_call); (simp; exact Red.rfl); exact c_upto _ _
  rintro _ _ ⟨rfl, rfl⟩
  repeat (first|(with_reducible first|apply X3|apply X8)|((with_reducible apply e_end);(simp;exact Red.rfl))|((with_reducible apply O2);rfl;(simp (disch:=omega);exact Red.rfl);exact Red.rfl;(focus (first|(simp;done)|omega|(simp;omega)))))
  refine q_drop (.inr rfl) (by simp; exact Red.rfl) (by simp) ⟨rfl, rfl⟩
theorem c_indB (H : Heap) (v : AV) (n : Nat) (hl : slLen v n) (hn : n ≤ 1000000) : ACalls Try.prog F.beam_indices_api_Beam [v] H (fun v h' => v = .agg [.int .i64 0, .int .i64 ((n : Int) - 1)] ∧ h' = H) := by
  refine acalls_of ok_beam_indices_api_Beam rfl fun hcl => ?_
  unfold ac_beam_indices_api_Beam
  simp only [argsT, Nat.zero_add, Nat.reduceAdd]
  repeat (first|(with_reducible first|apply X1|apply X2|apply X8)|((with_reducible apply e_end);(simp;exact Red.rfl))|((with_reducible apply O1);rfl;(simp (disch:=omega);exact Red.rfl);exact Red.rfl;(focus (first|(simp;done)|omega|(simp;omega)))))
  (with_reducible apply e_op); rfl; exact den_sl (by simp) hl; exact Red.rfl; trivial
  repeat ((with_reducible apply O1);rfl;(simp (disch:=omega);exact Red.rfl);exact Red.rfl;(focus (first|(simp;done)|omega|(simp;omega))))
  (with_reducible apply e_call); (simp; exact Red.rfl); exact c_upto _ _
  rintro _ _ ⟨rfl, rfl⟩
  repeat (first|(with_reducible first|apply X3|apply X8)|((with_reducible apply e_end);(simp;exact Red.rfl))|((with_reducible apply O2);rfl;(simp (disch:=omega);exact Red.rfl);exact Red.rfl;(focus (first|(simp;done)|omega|(simp;omega)))))
  refine q_drop (.inr rfl) (by simp; exact Red.rfl) (by simp) ⟨rfl, rfl⟩
def drF (dr t : Int) : Int := (t * dr + 999999) / 1000000
theorem mul_bd {dr t T : Int} (hd : 0 ≤ dr ∧ dr ≤ 1000) (ht : 0 ≤ t ∧ t ≤ T) : 0 ≤ t * dr ∧ t * dr ≤ T * 1000 := by
  refine ⟨Int.mul_nonneg ht.1 hd.1, ?_⟩
  exact Int.mul_le_mul ht.2 hd.2 hd.1 (by omega)
theorem drF_bd {dr t T : Int} (hd : 0 ≤ dr ∧ dr ≤ 1000) (ht : 0 ≤ t ∧ t ≤ T) : 0 ≤ drF dr t ∧ drF dr t ≤ T := by
  have := mul_bd hd ht
  unfold drF
  omega
theorem c_drifts (H : Heap) (dr t : Int) (v : AV) (n : Nat) (hd : 0 ≤ dr ∧ dr ≤ 1000) (ht : 0 ≤ t ∧ t ≤ 1000000000) (hl : slLen v n) :
    ACalls Try.prog F.beam_drifts [.agg [.int .i64 dr, v], .int .i64 t] H (fun v h' => v = .int .i64 (drF dr t) ∧ h' = H) := by
  refine acalls_of ok_beam_drifts rfl fun hcl => ?_
  unfold ac_beam_drifts
  simp only [argsT, Nat.zero_add, Nat.reduceAdd]
  have hm := mul_bd hd ht
  have h1 : IntKind.i64.wrap (t * dr) = t * dr := by rw [wrap64] <;> omega
  have h2 : IntKind.i64.wrap (t * dr + 999999) = t * dr + 999999 := by rw [wrap64] <;> omega
  have h3 : IntKind.i64.wrap ((t * dr + 999999).tdiv 1000000) = drF dr t := by
    rw [Int.tdiv_eq_ediv_of_nonneg (by omega)]
    unfold drF
    rw [wrap64] <;> omega
  repeat (first|(with_reducible first|apply X1|apply X2|apply X3|apply X8)|((with_reducible apply e_end);(simp;exact Red.rfl))|((with_reducible apply O1);rfl;(simp (disch:=omega) [h1, h2, h3];exact Red.rfl);exact Red.rfl;(focus (first|(simp;done)|omega|(simp;omega)))))
  refine q_drop (.inr rfl) (by simp; exact Red.rfl) (by simp) ⟨rfl, rfl⟩
structure Sy where
  at_ : Int
  lo : Int
  hi : Int
def Sy.av (s : Sy) : List AV := [.int .i64 s.at_, .int .i64 s.lo, .int .i64 s.hi]
def snD (dr : Int) (s : Sy) (t : Int) : Int := drF dr (max (t - s.at_) (s.at_ - t))
theorem snD_bd {dr t : Int} {s : Sy} (hd : 0 ≤ dr ∧ dr ≤ 1000) (ht : 0 ≤ t ∧ t ≤ 86400000) (hs : 0 ≤ s.at_ ∧ s.at_ ≤ 86400000) : 0 ≤ snD dr s t ∧ snD dr s t ≤ 86400000 := drF_bd hd (by omega)
theorem c_since (H : Heap) (dr t : Int) (v : AV) (n : Nat) (s : Sy) (hd : 0 ≤ dr ∧ dr ≤ 1000) (ht : 0 ≤ t ∧ t ≤ 86400000) (hl : slLen v n) (hsc : v.sc H.length = true) (hs : 0 ≤ s.at_ ∧ s.at_ ≤ 86400000) (hb : -10000 ≤ s.lo ∧ s.lo ≤ 10000 ∧ -10000 ≤ s.hi ∧ s.hi ≤ 10000) :
    ACalls Try.prog F.beam_since [.agg [.int .i64 dr, v], .agg s.av, .int .i64 t] H (fun v h' => v = .agg [.int .i64 (s.lo + -snD dr s t), .int .i64 (s.hi + snD dr s t)] ∧ h' = H) := by
  have hD := snD_bd hd ht hs
  have cd := fun H => c_drifts H dr (max (t - s.at_) (s.at_ - t)) v n hd (by omega) hl
  have ca := fun H => c_around H (snD dr s t) (by omega)
  have cp := fun H => c_plus H s.lo s.hi (-snD dr s t) (snD dr s t) (by omega) (by omega) (by omega) (by omega)
  have e : drF dr (max (t - s.at_) (s.at_ - t)) = snD dr s t := rfl
  rw [e] at cd
  generalize snD dr s t = D at *
  obtain ⟨a, lo, hi⟩ := s
  simp only [Sy.av] at *
  refine acalls_of ok_beam_since rfl fun hcl => ?_
  unfold ac_beam_since
  simp only [argsT, Nat.zero_add, Nat.reduceAdd]
  have h1 : IntKind.i64.wrap (t - a) = t - a := by rw [wrap64] <;> omega
  have h2 : IntKind.i64.wrap (a - t) = a - t := by rw [wrap64] <;> omega
  have h3 : (if t - a < a - t then a - t else t - a) = max (t - a) (a - t) := by simp only [Int.max_def]; split <;> split <;> omega
  have hs2 : ∀ k, v.sc (H.length + k) = true := by
    intro k
    rcases hl with ⟨rfl, _⟩ | ⟨id, off, sz, ex, rfl⟩
    · rfl
    · simp [AV.sc] at hsc ⊢; omega
  repeat (first|(with_reducible first|apply X1|apply X2|apply X8|apply Y9)|((with_reducible apply e_end);(simp;exact Red.rfl))|((first|((with_reducible apply O1);rfl)|((with_reducible apply P1);rfl)|((with_reducible apply P2);rfl));(simp (disch:=omega) [h1, h2, h3];exact Red.rfl);exact Red.rfl;(focus (first|(simp;done)|omega|(simp;omega)))))
  (with_reducible apply d_call); (simp; exact Red.rfl); exact cd _; (focus (simp [hs2]))
  skip
  (with_reducible apply d_call); (simp; exact Red.rfl); exact ca _; (focus (first | (simp; done) | (simp; omega)))
  skip
  (with_reducible apply d_call); (simp; exact Red.rfl); exact cp _; (focus (first | (simp; done) | (simp; omega)))
  repeat (first|(with_reducible first|apply X3|apply X8)|((with_reducible apply d_end);(simp;exact Red.rfl))|((with_reducible apply P4);rfl;(simp (disch:=omega);exact Red.rfl);exact Red.rfl;(focus (first|(simp;done)|omega|(simp;omega)))))
  refine q_drop (.inr rfl) (by simp; exact Red.rfl) (by simp) ⟨rfl, rfl⟩
theorem c_bothB (H : Heap) (a b c d : Int) : ACalls Try.prog F.span_Both [.agg [.int .i64 a, .int .i64 b], .agg [.int .i64 c, .int .i64 d]] H (fun v h' => v = .agg [.int .i64 (max a c), .int .i64 (min b d)] ∧ h' = H) := by
  refine acalls_of ok_span_Both rfl fun hcl => ?_
  unfold ac_span_Both
  simp only [argsT, Nat.zero_add, Nat.reduceAdd]
  have e1 : (if a < c then c else a) = max a c := by simp only [Int.max_def]; split <;> split <;> omega
  have e2 : (if d < b then d else b) = min b d := by simp only [Int.min_def]; split <;> split <;> omega
  repeat (first|(with_reducible first|apply X1|apply X2|apply X3|apply X8)|((with_reducible apply e_end);(simp;exact Red.rfl))|((first|((with_reducible apply O1);rfl)|((with_reducible apply O2);rfl));(simp (disch:=omega) [e1, e2];exact Red.rfl);exact Red.rfl;(focus (first|(simp;done)|omega|(simp;omega)))))
  refine q_drop (.inr rfl) (by simp; exact Red.rfl) (by simp) ⟨rfl, rfl⟩
def syR (sy : Nat → Sy) (j : Nat) : List AV := (sy j).av
theorem plain_sy (sy : Nat → Sy) : PlainRow 3 (syR sy) := ⟨fun _ => rfl, fun _ => ⟨rfl, fun _ => rfl, fun _ => rfl⟩⟩
def ahLo (dr : Int) (sy : Nat → Sy) (t : Int) : Nat → Int
  | 0 => (sy 0).lo + -snD dr (sy 0) t
  | k + 1 => max (ahLo dr sy t k) ((sy (k + 1)).lo + -snD dr (sy (k + 1)) t)
def ahHi (dr : Int) (sy : Nat → Sy) (t : Int) : Nat → Int
  | 0 => (sy 0).hi + snD dr (sy 0) t
  | k + 1 => min (ahHi dr sy t k) ((sy (k + 1)).hi + snD dr (sy (k + 1)) t)
def okSy (n : Nat) (sy : Nat → Sy) : Prop := ∀ i, i < n → (0 ≤ (sy i).at_ ∧ (sy i).at_ ≤ 86400000) ∧ -10000 ≤ (sy i).lo ∧ (sy i).lo ≤ (sy i).hi ∧ (sy i).hi ≤ 10000 ∧ (0 < i → (sy (i - 1)).at_ < (sy i).at_)
theorem ah_bd {dr t : Int} {sy : Nat → Sy} {n : Nat} (hd : 0 ≤ dr ∧ dr ≤ 1000) (ht : 0 ≤ t ∧ t ≤ 86400000) (hs : okSy n sy) : ∀ k, k < n → -100000000 ≤ ahLo dr sy t k ∧ ahLo dr sy t k ≤ 10000 ∧ -10000 ≤ ahHi dr sy t k ∧ ahHi dr sy t k ≤ 100000000
  | 0, h => by
    have h1 := hs 0 h
    have h2 := snD_bd hd ht h1.1
    simp only [ahLo, ahHi]
    omega
  | k + 1, h => by
    have ih := ah_bd hd ht hs k (by omega)
    have h1 := hs (k + 1) h
    have h2 := snD_bd hd ht h1.1
    simp only [ahLo, ahHi]
    omega
set_option maxHeartbeats 2000000 in
theorem c_ahead (H : Heap) (dr t : Int) (sid soff n : Nat) (ex : Bool) (sy : Nat → Sy) (hs : rd H sid soff (n * 3) = some (avR (syR sy) n)) (hd : 0 ≤ dr ∧ dr ≤ 1000) (ht : 0 ≤ t ∧ t ≤ 86400000) (hn : 1 ≤ n ∧ n ≤ 5) (hk : okSy n sy) :
    ACalls Try.prog F.beam_ahead [.agg [.int .i64 dr, .slice sid soff n 3 ex], .int .i64 t] H (fun v h' => v = .agg [.int .i64 (ahLo dr sy t (n - 1)), .int .i64 (ahHi dr sy t (n - 1))] ∧ h' = H) := by
  refine acalls_of ok_beam_ahead rfl fun hcl => ?_
  unfold ac_beam_ahead
  simp only [argsT, Nat.zero_add, Nat.reduceAdd]
  have hid := rd_lt hs
  have cs := fun G i (hi : i < n) => c_since (H ++ G) dr t (.slice sid soff n 3 ex) n (sy i) hd ht (.inr ⟨_, _, _, _, rfl⟩) (by simp [AV.sc]; omega) (hk i hi).1 (by have := (hk i hi).2; omega)
  have row : ∀ i, i < n → rd H sid (soff + i * 3) 3 = some (sy i).av := fun i hi => by
    have := rd_at hs hi
    rw [(plain_sy sy).row hi] at this
    exact this
  have r0 := row 0 (by omega)
  have c0 := fun G => cs G 0 (by omega)
  simp only [Sy.av, Nat.zero_mul, Nat.add_zero] at r0 c0
  have p1 : (0 : Int) < n := by omega
  have p2 : 0 < n := by omega
  have p3 : (1 : Int) ≤ n := by omega
  repeat (first|(with_reducible first|apply X1|apply X2|apply X8|apply Y9)|((with_reducible apply e_end);(simp;exact Red.rfl))|((first|((with_reducible apply O1);rfl)|((with_reducible apply P1);rfl)|((with_reducible apply P2);rfl));(simp (disch:=omega) [rd_old _ hid, r0, p1, p2, p3];exact Red.rfl);exact Red.rfl;(focus (first|(simp;done)|omega|(simp;omega)))))
  (with_reducible apply d_call); (simp; exact Red.rfl); exact c0 _; (focus (first | (simp; done) | (simp; omega)))
  repeat (first|(with_reducible first|apply X1|apply X2|apply X6|apply X8)|((with_reducible first|apply e_end|apply d_end);(simp;exact Red.rfl))|((first|((with_reducible apply O1);rfl)|((with_reducible apply P3);rfl)|((with_reducible apply P4);rfl));(simp (disch:=omega) [rd_old _ hid, r0, p1, p2, p3];exact Red.rfl);exact Red.rfl;(focus (first|(simp;done)|omega|(simp;omega)))))
  refine e_loop (ι := { i : Nat // i ≤ n - 1 })
    (fun i => [(1, .int .i64 t), (2, .ptr H.length 0), (4, .ptr (H.length + 1) 0), (5, .ptr (H.length + 2) 0), (17, .slice sid (soff + 3) (n - 1) 3 ex), (18, .int .i64 ((n - 1 : Nat) : Int)), (19, .int .i64 i.1)])
    (fun i => H ++ [.cells [.int .i64 dr, .slice sid soff n 3 ex] true, .cells [.int .i64 0, .int .i64 0] true, .cells [.int .i64 (ahLo dr sy t i.1), .int .i64 (ahHi dr sy t i.1)] true]) (fun i => n - 1 - i.1) ⟨0, by omega⟩ ?_ ?_
  · exact .inl rfl
  · rintro ⟨i, hi⟩
    dsimp only
    by_cases hlt : i < n - 1
    · have hlt2 : (i : Int) < ((n - 1 : Nat) : Int) := by omega
      have ri := row (i + 1) (by omega)
      rw [show soff + (i + 1) * 3 = soff + 3 + i * 3 by omega] at ri
      have ci := fun G => cs G (i + 1) (by omega)
      simp only [Sy.av] at ri ci
      have e1 : ahLo dr sy t (i + 1) = max (ahLo dr sy t i) ((sy (i + 1)).lo + -snD dr (sy (i + 1)) t) := rfl
      have e2 : ahHi dr sy t (i + 1) = min (ahHi dr sy t i) ((sy (i + 1)).hi + snD dr (sy (i + 1)) t) := rfl
      repeat (first|(with_reducible first|apply X1|apply X2|apply X5|apply X6|apply X8|apply Y9)|((with_reducible apply e_end);(simp;exact Red.rfl))|((first|((with_reducible apply O1);rfl)|((with_reducible apply O2);rfl)|((with_reducible apply P1);rfl)|((with_reducible apply P2);rfl));(simp (disch:=omega) [hlt, hlt2, rd_old _ hid, ri];exact Red.rfl);exact Red.rfl;(focus (first|(simp;done)|omega|(simp;omega))))|((with_reducible apply Z9);(simp (disch:=omega) [hlt, hlt2, rd_old _ hid, ri];exact Red.rfl)))
      (with_reducible apply d_call); (simp; exact Red.rfl); exact ci _; (focus (first | (simp; done) | (simp; omega)))
      skip
      (with_reducible apply d_call); (simp; exact Red.rfl); exact c_bothB _ _ _ _ _; (focus (first | (simp; done) | (simp; omega)))
      repeat (first|(with_reducible first|apply X2|apply X8|apply Y2)|((with_reducible first|apply e_end|apply d_end);(simp;exact Red.rfl))|((first|((with_reducible apply O1);rfl)|((with_reducible apply P4);rfl));(simp (disch:=omega);exact Red.rfl);exact Red.rfl;(focus (first|(simp;done)|omega|(simp;omega)))))
      refine q_again ⟨i + 1, hlt⟩ (by dsimp only; omega) (.inr ?_)
      simp only [e1, e2]
      exact le_take (G := [_, _, _]) (by simp; omega) (by simp [Red]; omega)
    · obtain rfl : i = n - 1 := by omega
      repeat (first|(with_reducible first|apply X1|apply X2|apply X3|apply X4|apply X8|apply Y1|apply Y4|apply Y6)|((with_reducible apply e_end);(simp;exact Red.rfl))|((first|((with_reducible apply O1);rfl)|((with_reducible apply O2);rfl));(simp (disch:=omega);exact Red.rfl);exact Red.rfl;(focus (first|(simp;done)|omega|(simp;omega))))|((with_reducible apply W3);(simp (disch:=omega);exact Red.rfl)))
      refine q_drop (.inr rfl) (by simp; exact Red.rfl) (by simp) ⟨rfl, rfl⟩
theorem c_rDrifts (H : Heap) (dr t : Int) (hd : 0 ≤ dr ∧ dr ≤ 1000) (ht : 0 ≤ t ∧ t ≤ 1000000000) :
    ACalls Try.prog F.ref05_Drifts [.int .i64 dr, .int .i64 t] H (fun v h' => v = .int .i64 (drF dr t) ∧ h' = H) := by
  refine acalls_of ok_ref05_Drifts rfl fun hcl => ?_
  unfold ac_ref05_Drifts
  simp only [argsT, Nat.zero_add, Nat.reduceAdd]
  have hm := mul_bd hd ht
  have hc : dr * t = t * dr := Int.mul_comm _ _
  have h1 : IntKind.i64.wrap (dr * t) = t * dr := by rw [hc, wrap64] <;> omega
  have h2 : (t * dr).tmod 1000000 = (t * dr) % 1000000 := Int.tmod_eq_emod_of_nonneg hm.1
  have h3 : (t * dr).tdiv 1000000 = (t * dr) / 1000000 := Int.tdiv_eq_ediv_of_nonneg hm.1
  have h4 : IntKind.i64.wrap ((t * dr) / 1000000) = (t * dr) / 1000000 := by rw [wrap64] <;> omega
  have h5 : IntKind.i64.wrap ((t * dr) / 1000000 + 1) = (t * dr) / 1000000 + 1 := by rw [wrap64] <;> omega
  by_cases h0 : 0 < (t * dr) % 1000000
  · have e : drF dr t = t * dr / 1000000 + 1 := by unfold drF; omega
    rw [e]
    repeat (first|(with_reducible first|apply X1|apply X2|apply X3|apply X8|apply X9)|((with_reducible apply e_end);(simp;exact Red.rfl))|((with_reducible apply O1);rfl;(simp (disch:=omega) [h1, h2, h3, h4, h5, h0];exact Red.rfl);exact Red.rfl;(focus (first|(simp;done)|omega|(simp;omega))))|((with_reducible apply Z9);(simp (disch:=omega) [h1, h2, h3, h4, h5, h0];exact Red.rfl)))
    refine q_stay (.inr rfl) (by simp; exact Red.rfl) ⟨rfl, rfl⟩
  · have e : drF dr t = t * dr / 1000000 := by unfold drF; omega
    rw [e]
    repeat (first|(with_reducible first|apply X1|apply X2|apply X3|apply X5|apply X8)|((with_reducible apply e_end);(simp;exact Red.rfl))|((with_reducible apply O1);rfl;(simp (disch:=omega) [h1, h2, h3, h4, h5, h0];exact Red.rfl);exact Red.rfl;(focus (first|(simp;done)|omega|(simp;omega))))|((with_reducible apply W3);(simp (disch:=omega) [h1, h2, h3, h4, h5, h0];exact Red.rfl)))
    refine q_stay (.inr rfl) (by simp; exact Red.rfl) ⟨rfl, rfl⟩
def oLo (dr : Int) (sy : Nat → Sy) (t : Int) (i : Nat) : Int := if i = 0 then 0 else ahLo dr sy t (i - 1)
def oHi (dr : Int) (sy : Nat → Sy) (t : Int) (i : Nat) : Int := if i = 0 then 0 else ahHi dr sy t (i - 1)
theorem oLo_succ (dr : Int) (sy : Nat → Sy) (t : Int) {i : Nat} (h : i ≠ 0) : oLo dr sy t (i + 1) = max (oLo dr sy t i) ((sy i).lo - snD dr (sy i) t) := by
  obtain ⟨k, rfl⟩ : ∃ k, i = k + 1 := ⟨i - 1, by omega⟩
  simp only [oLo, Nat.add_sub_cancel, Nat.add_eq_zero_iff, Nat.succ_ne_self, and_false, if_false, ahLo, Int.sub_eq_add_neg, Nat.one_ne_zero]
theorem oHi_succ (dr : Int) (sy : Nat → Sy) (t : Int) {i : Nat} (h : i ≠ 0) : oHi dr sy t (i + 1) = min (oHi dr sy t i) ((sy i).hi + snD dr (sy i) t) := by
  obtain ⟨k, rfl⟩ : ∃ k, i = k + 1 := ⟨i - 1, by omega⟩
  simp only [oHi, Nat.add_sub_cancel, Nat.add_eq_zero_iff, Nat.succ_ne_self, and_false, if_false, ahHi, Nat.one_ne_zero]
set_option maxHeartbeats 2000000 in
theorem c_rahead (H : Heap) (dr t : Int) (sid soff n : Nat) (ex : Bool) (sy : Nat → Sy) (hs : rd H sid soff (n * 3) = some (avR (syR sy) n)) (hd : 0 ≤ dr ∧ dr ≤ 1000) (ht : 0 ≤ t ∧ t ≤ 86400000) (hn : 1 ≤ n ∧ n ≤ 5) (hk : okSy n sy) :
    ACalls Try.prog F.ref05_ahead [.agg [.int .i64 dr, .slice sid soff n 3 ex], .int .i64 t] H (fun v h' => v = .agg [.int .i64 (ahLo dr sy t (n - 1)), .int .i64 (ahHi dr sy t (n - 1))] ∧ h' = H) := by
  have e0 : ahLo dr sy t (n - 1) = oLo dr sy t n := by rw [oLo, if_neg (by omega)]
  have e1 : ahHi dr sy t (n - 1) = oHi dr sy t n := by rw [oHi, if_neg (by omega)]
  rw [e0, e1]
  refine acalls_of ok_ref05_ahead rfl fun hcl => ?_
  unfold ac_ref05_ahead
  simp only [argsT, Nat.zero_add, Nat.reduceAdd]
  have hid := rd_lt hs
  have row : ∀ i, i < n → rd H sid (soff + i * 3) 3 = some (sy i).av := fun i hi => by
    have := rd_at hs hi
    rw [(plain_sy sy).row hi] at this
    exact this
  repeat (first|(with_reducible first|apply X1|apply X2|apply X6|apply X8)|((with_reducible apply e_end);(simp;exact Red.rfl))|((with_reducible apply O1);rfl;(simp (disch:=omega);exact Red.rfl);exact Red.rfl;(focus (first|(simp;done)|omega|(simp;omega)))))
  refine e_loop (ι := { i : Nat // i ≤ n })
    (fun i => [(1, .int .i64 t), (2, .ptr H.length 0), (4, .ptr (H.length + 1) 0), (5, .ptr (H.length + 2) 0), (6, .int .i64 i.1)])
    (fun i => H ++ [.cells [.int .i64 dr, .slice sid soff n 3 ex] true, .cells [.int .i64 0, .int .i64 0] true, .cells [.int .i64 (oLo dr sy t i.1), .int .i64 (oHi dr sy t i.1)] true]) (fun i => n - i.1) ⟨0, by omega⟩ ?_ ?_
  · exact .inl (by simp [oLo, oHi])
  · rintro ⟨i, hi⟩
    dsimp only
    by_cases hlt : i < n
    · have hlt2 : (i : Int) < n := by omega
      have ri := row i hlt
      have hki := hk i hlt
      have hD := snD_bd hd ht hki.1
      have cd := fun G => c_rDrifts (H ++ G) dr (max (t - (sy i).at_) ((sy i).at_ - t)) hd (by omega)
      have s1 := fun h => oLo_succ dr sy t (i := i) h
      have s2 := fun h => oHi_succ dr sy t (i := i) h
      have z1 : oLo dr sy t 1 = (sy 0).lo - snD dr (sy 0) t := by simp [oLo, ahLo, Int.sub_eq_add_neg]
      have z2 : oHi dr sy t 1 = (sy 0).hi + snD dr (sy 0) t := by simp [oHi, ahHi]
      rw [show drF dr (max (t - (sy i).at_) ((sy i).at_ - t)) = snD dr (sy i) t from rfl] at cd
      have h1 : IntKind.i64.wrap (t - (sy i).at_) = t - (sy i).at_ := by rw [wrap64] <;> omega
      have h2 : IntKind.i64.wrap ((sy i).at_ - t) = (sy i).at_ - t := by rw [wrap64] <;> omega
      have h3 : (if t - (sy i).at_ < (sy i).at_ - t then (sy i).at_ - t else t - (sy i).at_) = max (t - (sy i).at_) ((sy i).at_ - t) := by simp only [Int.max_def]; split <;> split <;> omega
      have h4 : IntKind.i64.wrap ((sy i).lo - snD dr (sy i) t) = (sy i).lo - snD dr (sy i) t := by rw [wrap64] <;> omega
      have h5 : IntKind.i64.wrap ((sy i).hi + snD dr (sy i) t) = (sy i).hi + snD dr (sy i) t := by rw [wrap64] <;> omega
      have h6 : ∀ a b : Int, (if a < b then b else a) = max a b := fun a b => by simp only [Int.max_def]; split <;> split <;> omega
      have h7 : ∀ a b : Int, (if b < a then b else a) = min a b := fun a b => by simp only [Int.min_def]; split <;> split <;> omega
      simp only [Sy.av] at ri
      repeat (first|(with_reducible first|apply X1|apply X2|apply X5|apply X6|apply X8)|((with_reducible apply e_end);(simp;exact Red.rfl))|((first|((with_reducible apply O1);rfl)|((with_reducible apply O2);rfl));(simp (disch:=omega) [hlt, hlt2, rd_old _ hid, ri, h1, h2, h3];exact Red.rfl);exact Red.rfl;(focus (first|(simp;done)|omega|(simp;omega))))|((with_reducible apply Z9);(simp (disch:=omega) [hlt, hlt2, rd_old _ hid, ri, h1, h2, h3];exact Red.rfl)))
      (with_reducible apply e_call); (simp; exact Red.rfl); exact cd _
      rintro _ _ ⟨rfl, rfl⟩
      by_cases h0 : i = 0
      · subst h0
        repeat (first|(with_reducible first|apply X1|apply X2|apply X8|apply Y2)|((with_reducible apply e_end);(simp;exact Red.rfl))|((first|((with_reducible apply O1);rfl)|((with_reducible apply O2);rfl));(simp (disch:=omega) [h4, h5, h6, h7];exact Red.rfl);exact Red.rfl;(focus (first|(simp;done)|omega|(simp;omega))))|((with_reducible apply Z9);(simp (disch:=omega) [h4, h5, h6, h7];exact Red.rfl)))
        refine q_again ⟨1, by omega⟩ (by dsimp only; omega) (.inr ?_)
        simp only [z1, z2]
        exact le_take (G := [_, _, _]) (by simp; omega) (by simp [Red])
      · have h0' : ¬ (i : Int) = 0 := by omega
        repeat (first|(with_reducible first|apply X1|apply X2|apply X5|apply X8|apply Y2)|((with_reducible apply e_end);(simp;exact Red.rfl))|((first|((with_reducible apply O1);rfl)|((with_reducible apply O2);rfl));(simp (disch:=omega) [h4, h5, h6, h7, h0, h0'];exact Red.rfl);exact Red.rfl;(focus (first|(simp;done)|omega|(simp;omega))))|((with_reducible apply W3);(simp (disch:=omega) [h4, h5, h6, h7, h0, h0'];exact Red.rfl)))
        refine q_again ⟨i + 1, hlt⟩ (by dsimp only; omega) (.inr ?_)
        simp only [s1 h0, s2 h0]
        exact le_take (G := [_, _, _]) (by simp; omega) (by simp [Red])
    · obtain rfl : i = n := by omega
      repeat (first|(with_reducible first|apply X1|apply X2|apply X3|apply X4|apply X8|apply Y1|apply Y4|apply Y6)|((with_reducible apply e_end);(simp;exact Red.rfl))|((first|((with_reducible apply O1);rfl)|((with_reducible apply O2);rfl));(simp (disch:=omega);exact Red.rfl);exact Red.rfl;(focus (first|(simp;done)|omega|(simp;omega))))|((with_reducible apply W3);(simp (disch:=omega);exact Red.rfl)))
      refine q_drop (.inr rfl) (by simp; exact Red.rfl) (by simp) ⟨rfl, rfl⟩
theorem c_within1 (H : Heap) (lo hi x : Int) (id off : Nat) (ex : Bool) {b : Bool} (hs : rd H id off 1 = some [.int .i64 x]) (hb : b = true ↔ lo ≤ x ∧ x ≤ hi) :
    ACalls Try.prog F.span_Within [.agg [.int .i64 lo, .int .i64 hi], .slice id off 1 1 ex] H (fun v h' => v = .bool b ∧ h' = H) :=
  (c_within H lo hi [x] id off ex (by simpa using hs) (by simp)).mono fun v h' ⟨h1, h2⟩ => ⟨by
    rw [h1]; congr 1; rw [Bool.eq_iff_iff, hb]; simp, h2⟩
theorem c_fitsB (H : Heap) (a c lo hi : Int) {b : Bool} (hb : b = true ↔ a ≤ c ∧ lo ≤ a ∧ c ≤ hi) : ACalls Try.prog F.span_Fits [.agg [.int .i64 a, .int .i64 c], .agg [.int .i64 lo, .int .i64 hi]] H (fun v h' => v = .bool b ∧ h' = H) :=
  (c_fits H a c lo hi).mono fun v h' ⟨h1, h2⟩ => ⟨by rw [h1]; congr 1; rw [Bool.eq_iff_iff, hb]; simp, h2⟩
def SyAt (H : Heap) (v : AV) (sy : Nat → Sy) (n : Nat) : Prop := (v = .nilslice ∧ n = 0) ∨ ∃ id off ex, v = .slice id off n 3 ex ∧ rd H id off (n * 3) = some (avR (syR sy) n)
theorem SyAt.len {H : Heap} {v : AV} {sy : Nat → Sy} {n : Nat} (h : SyAt H v sy n) : slLen v n := by
  rcases h with h | ⟨id, off, ex, h, _⟩
  · exact .inl h
  · exact .inr ⟨id, off, 3, ex, h⟩
theorem SyAt.sc {H : Heap} {v : AV} {sy : Nat → Sy} {n : Nat} (h : SyAt H v sy n) {m : Nat} (hm : H.length ≤ m) : v.sc m = true := by
  rcases h with ⟨rfl, _⟩ | ⟨id, off, ex, rfl, h⟩
  · rfl
  · have := rd_lt h
    simp [AV.sc]; omega
theorem SyAt.app {H : Heap} {v : AV} {sy : Nat → Sy} {n : Nat} (h : SyAt H v sy n) (G : Heap) : SyAt (H ++ G) v sy n := by
  rcases h with h | ⟨id, off, ex, h, hr⟩
  · exact .inl h
  · exact .inr ⟨id, off, ex, h, by rw [rd_old _ (rd_lt hr)]; exact hr⟩
theorem SyAt.row {H : Heap} {v : AV} {sy : Nat → Sy} {n : Nat} (h : SyAt H v sy n) (h0 : 0 < n) : ∃ id off ex, v = .slice id off n 3 ex ∧ id < H.length ∧ ∀ i, i < n → rd H id (off + i * 3) 3 = some (sy i).av := by
  rcases h with ⟨_, h⟩ | ⟨id, off, ex, h, hr⟩
  · omega
  · refine ⟨id, off, ex, h, rd_lt hr, fun i hi => ?_⟩
    have := rd_at hr hi
    rw [(plain_sy sy).row hi] at this
    exact this
def okC (dr : Int) (n : Nat) (sy : Nat → Sy) : Prop := (0 ≤ dr ∧ dr ≤ 1000) ∧ (1 ≤ n ∧ n ≤ 5) ∧ okSy n sy
def okS1 (sy : Nat → Sy) (i : Nat) : Prop := (0 ≤ (sy i).at_ ∧ (sy i).at_ ≤ 86400000) ∧ (-10000 ≤ (sy i).lo ∧ (sy i).lo ≤ (sy i).hi ∧ (sy i).hi ≤ 10000) ∧ (0 < i → (sy (i - 1)).at_ < (sy i).at_)
theorem okSy_iff {n : Nat} {sy : Nat → Sy} : okSy n sy ↔ ∀ i, i < n → okS1 sy i :=
  ⟨fun h i hi => by have := h i hi; exact ⟨this.1, ⟨this.2.1, this.2.2.1, this.2.2.2.1⟩, this.2.2.2.2⟩, fun h i hi => by obtain ⟨a, ⟨b, c, d⟩, e⟩ := h i hi; exact ⟨a, b, c, d, e⟩⟩
set_option maxHeartbeats 4000000 in
theorem c_compared (H : Heap) (dr : Int) (v : AV) (sy : Nat → Sy) (n : Nat) (hs : SyAt H v sy n) (hn : n ≤ 1000000) :
    ACalls Try.prog F.beam_compared [.agg [.int .i64 dr, v]] H (fun v h' => h' = H ∧ ∃ b : Bool, v = .bool b ∧ (b = true ↔ okC dr n sy)) := by
  have hsc := fun k => hs.sc (m := H.length + k) (by omega)
  have hln := hs.len
  refine acalls_of ok_beam_compared rfl fun hcl => ?_
  unfold ac_beam_compared
  simp only [argsT, Nat.zero_add, Nat.reduceAdd]
  by_cases hd : 0 ≤ dr ∧ dr ≤ 1000
  rotate_left
  · repeat (first|(with_reducible first|apply X1|apply X2|apply X8|apply Y9)|((with_reducible apply e_end);(simp;exact Red.rfl))|((with_reducible apply O1);rfl;(simp (disch:=omega);exact Red.rfl);exact Red.rfl;(focus (first|(simp;done)|omega|(simp;omega)))))
    (with_reducible apply d_call); (simp; exact Red.rfl); exact c_upto _ _; (focus (first | (simp; done) | (simp; omega)))
    repeat (first|((first|((with_reducible apply P1);rfl)|((with_reducible apply P3);rfl));(simp (disch:=omega);exact Red.rfl);exact Red.rfl;(focus (first|(simp;done)|omega|(simp;omega))))|((with_reducible apply P6);rfl;(simp (disch:=omega);exact Red.rfl);exact Red.rfl;(focus (first|(simp [pr];done)|(simp [pr];omega)))))
    (with_reducible apply d_call); (simp; exact Red.rfl); exact c_within1 _ 0 1000 dr (H.length + 1) 0 true (b := false) (by simp) (by simp; omega); (focus (simp [hsc]))
    repeat (first|(with_reducible first|apply X1|apply X2|apply X3|apply X8|apply X9)|((with_reducible first|apply e_end|apply d_end);(simp;exact Red.rfl))|((first|((with_reducible apply O1);rfl)|((with_reducible apply P1);rfl));(simp (disch:=omega);exact Red.rfl);exact Red.rfl;(focus (first|(simp;done)|omega|(simp;omega))))|((with_reducible apply Z9);(simp (disch:=omega);exact Red.rfl))|((with_reducible apply Z6);(simp (disch:=omega);exact Red.rfl)))
    refine q_drop (.inr rfl) (by simp; exact Red.rfl) (by simp) ⟨rfl, false, rfl, by simp [okC]; omega⟩
  · rcases hs with ⟨rfl, rfl⟩ | ⟨id, off, ex, rfl, hr⟩
    · repeat (first|(with_reducible first|apply X1|apply X2|apply X8|apply Y9)|((with_reducible apply e_end);(simp;exact Red.rfl))|((with_reducible apply O1);rfl;(simp (disch:=omega);exact Red.rfl);exact Red.rfl;(focus (first|(simp;done)|omega|(simp;omega)))))
      (with_reducible apply d_call); (simp; exact Red.rfl); exact c_upto _ _; (focus (first | (simp; done) | (simp; omega)))
      repeat (first|((first|((with_reducible apply P1);rfl)|((with_reducible apply P3);rfl));(simp (disch:=omega);exact Red.rfl);exact Red.rfl;(focus (first|(simp;done)|omega|(simp;omega))))|((with_reducible apply P6);rfl;(simp (disch:=omega);exact Red.rfl);exact Red.rfl;(focus (first|(simp [pr];done)|(simp [pr];omega)))))
      (with_reducible apply d_call); (simp; exact Red.rfl); exact c_within1 _ 0 1000 dr (H.length + 1) 0 true (b := true) (by simp) (by simp; omega); (focus (first | (simp; done) | (simp; omega)))
      repeat (first|((first|((with_reducible apply P1);rfl)|((with_reducible apply P2);rfl)|((with_reducible apply P3);rfl));(simp (disch:=omega);exact Red.rfl);exact Red.rfl;(focus (first|(simp;done)|omega|(simp;omega))))|((with_reducible apply Z8);(simp (disch:=omega);exact Red.rfl)))
      (with_reducible apply d_call); (simp; exact Red.rfl); exact c_within1 _ 1 5 0 (H.length + 2) 0 true (b := false) (by simp) (by simp); (focus (first | (simp; done) | (simp; omega)))
      repeat (first|(with_reducible first|apply X1|apply X2|apply X3|apply X8|apply X9)|((with_reducible first|apply e_end|apply d_end);(simp;exact Red.rfl))|((first|((with_reducible apply O1);rfl)|((with_reducible apply P1);rfl));(simp (disch:=omega);exact Red.rfl);exact Red.rfl;(focus (first|(simp;done)|omega|(simp;omega))))|((with_reducible first|apply Z8|apply Z9);(simp (disch:=omega);exact Red.rfl)))
      refine q_drop (.inr rfl) (by simp; exact Red.rfl) (by simp) ⟨rfl, false, rfl, by simp [okC]⟩
    · have hid := rd_lt hr
      repeat (first|(with_reducible first|apply X1|apply X2|apply X8|apply Y9)|((with_reducible apply e_end);(simp;exact Red.rfl))|((with_reducible apply O1);rfl;(simp (disch:=omega);exact Red.rfl);exact Red.rfl;(focus (first|(simp;done)|omega|(simp;omega)))))
      (with_reducible apply d_call); (simp; exact Red.rfl); exact c_upto _ _; (focus (first | (simp; done) | (simp; omega)))
      repeat (first|((first|((with_reducible apply P1);rfl)|((with_reducible apply P3);rfl));(simp (disch:=omega);exact Red.rfl);exact Red.rfl;(focus (first|(simp;done)|omega|(simp;omega))))|((with_reducible apply P6);rfl;(simp (disch:=omega);exact Red.rfl);exact Red.rfl;(focus (first|(simp [pr];done)|(simp [pr];omega)))))
      (with_reducible apply d_call); (simp; exact Red.rfl); exact c_within1 _ 0 1000 dr (H.length + 1) 0 true (b := true) (by simp) (by simp; omega); (focus (first | (simp; done) | (simp; omega)))
      repeat (first|((first|((with_reducible apply P1);rfl)|((with_reducible apply P2);rfl)|((with_reducible apply P3);rfl));(simp (disch:=omega);exact Red.rfl);exact Red.rfl;(focus (first|(simp;done)|omega|(simp;omega))))|((with_reducible apply Z8);(simp (disch:=omega);exact Red.rfl)))
      by_cases hn5 : 1 ≤ n ∧ n ≤ 5
      rotate_left
      · (with_reducible apply d_call); (simp; exact Red.rfl); exact c_within1 _ 1 5 n (H.length + 2) 0 true (b := false) (by simp) (by simp; omega); (focus (first | (simp; done) | (simp; omega)))
        repeat (first|(with_reducible first|apply X1|apply X2|apply X3|apply X8|apply X9)|((with_reducible first|apply e_end|apply d_end);(simp;exact Red.rfl))|((first|((with_reducible apply O1);rfl)|((with_reducible apply P1);rfl));(simp (disch:=omega);exact Red.rfl);exact Red.rfl;(focus (first|(simp;done)|omega|(simp;omega))))|((with_reducible first|apply Z8|apply Z9);(simp (disch:=omega);exact Red.rfl)))
        refine q_drop (.inr rfl) (by simp; exact Red.rfl) (by simp) ⟨rfl, false, rfl, by simp [okC]; omega⟩
      · (with_reducible apply d_call); (simp; exact Red.rfl); exact c_within1 _ 1 5 n (H.length + 2) 0 true (b := true) (by simp) (by simp; omega); (focus (first | (simp; done) | (simp; omega)))
        repeat (first|(with_reducible first|apply X1|apply X2|apply X5|apply X6|apply X8)|((with_reducible first|apply e_end|apply d_end);(simp;exact Red.rfl))|((first|((with_reducible apply O1);rfl)|((with_reducible apply P1);rfl));(simp (disch:=omega);exact Red.rfl);exact Red.rfl;(focus (first|(simp;done)|omega|(simp;omega))))|((with_reducible apply Z8);(simp (disch:=omega);exact Red.rfl))|((with_reducible apply W3);(simp (disch:=omega);exact Red.rfl)))
        have row : ∀ i, i < n → rd H id (off + i * 3) 3 = some (sy i).av := fun i hi => by
          have := rd_at hr hi
          rw [(plain_sy sy).row hi] at this
          exact this
        refine e_loop (ι := { i : Nat // i ≤ n ∧ ∀ j, j < i → okS1 sy j })
          (fun i => [(1, .ptr H.length 0), (21, .slice id off n 3 ex), (22, .int .i64 n), (23, .int .i64 i.1)])
          (fun _ => H ++ [.cells [.int .i64 dr, .slice id off n 3 ex] true]) (fun i => n - i.1) ⟨0, by omega, fun j hj => absurd hj (by omega)⟩ ?_ ?_
        · exact .inr <| le_take (G := [_]) (by simp; omega) (by simp [Red]; omega)
        · rintro ⟨i, hi, hall⟩
          dsimp only
          by_cases hlt : i < n
          · have hlt2 : (i : Int) < n := by omega
            have ri := row i hlt
            have hrp : 0 < i → rd H id (off + (i - 1) * 3) 1 = some [.int .i64 (sy (i - 1)).at_] := fun h => by
              have := rd_sub (row (i - 1) (by omega)) (j := 0) (m := 1) (by omega)
              simpa [Sy.av] using this
            have hdec : okS1 sy i ↔ (0 ≤ (sy i).at_ ∧ (sy i).at_ ≤ 86400000) ∧ (-10000 ≤ (sy i).lo ∧ (sy i).lo ≤ (sy i).hi ∧ (sy i).hi ≤ 10000) ∧ (0 < i → (sy (i - 1)).at_ < (sy i).at_) := Iff.rfl
            have hno : ¬ okS1 sy i → ¬ okC dr n sy := fun h h2 => h (okSy_iff.1 h2.2.2 i hlt)
            generalize sy i = y at ri hdec
            generalize (sy (i - 1)).at_ = z at hrp hdec
            obtain ⟨y1, y2, y3⟩ := y
            simp only [Sy.av] at ri
            dsimp only at hdec
            have hz : ((i : Int) - 1).toNat = i - 1 := by omega
            repeat (first|(with_reducible first|apply X1|apply X2|apply X5|apply X6|apply X8|apply Y9)|((with_reducible apply e_end);(simp;exact Red.rfl))|((first|((with_reducible apply O1);rfl)|((with_reducible apply O2);rfl));(simp (disch:=omega) [hlt, hlt2, rd_old _ hid, ri];exact Red.rfl);exact Red.rfl;(focus (first|(simp;done)|omega|(simp;omega))))|((with_reducible apply Z9);(simp (disch:=omega) [hlt, hlt2, rd_old _ hid, ri];exact Red.rfl)))
            (with_reducible apply d_call); (simp; exact Red.rfl); exact c_day _; (focus (first | (simp; done) | (simp; omega)))
            repeat (first|((first|((with_reducible apply P1);rfl)|((with_reducible apply P3);rfl));(simp (disch:=omega);exact Red.rfl);exact Red.rfl;(focus (first|(simp;done)|omega|(simp;omega))))|((with_reducible apply P6);rfl;(simp (disch:=omega);exact Red.rfl);exact Red.rfl;(focus (first|(simp [pr];done)|(simp [pr];omega)))))
            by_cases a1 : 0 ≤ y1 ∧ y1 ≤ 86400000
            rotate_left
            · (with_reducible apply d_call); (simp; exact Red.rfl); exact c_within1 _ 0 86400000 y1 (H.length + 2) 0 true (b := false) (by simp) (by simp; omega); (focus (first | (simp; done) | (simp; omega)))
              repeat (first|(with_reducible first|apply X1|apply X2|apply X3|apply X8|apply X9|apply Y3|apply Y5)|((with_reducible first|apply e_end|apply d_end);(simp;exact Red.rfl))|((first|((with_reducible apply O1);rfl)|((with_reducible apply P1);rfl));(simp (disch:=omega);exact Red.rfl);exact Red.rfl;(focus (first|(simp;done)|omega|(simp;omega))))|((with_reducible apply Z9);(simp (disch:=omega);exact Red.rfl))|((with_reducible apply Z6);(simp (disch:=omega);exact Red.rfl))|((with_reducible apply W2);(simp (disch:=omega);exact Red.rfl)))
              refine q_drop (.inr rfl) (by simp; exact Red.rfl) (by simp) ⟨rfl, false, rfl, by simp; exact hno (fun h => a1 (hdec.1 h).1)⟩
            · (with_reducible apply d_call); (simp; exact Red.rfl); exact c_within1 _ 0 86400000 y1 (H.length + 2) 0 true (b := true) (by simp) (by simp; omega); (focus (first | (simp; done) | (simp; omega)))
              repeat (first|((first|((with_reducible apply P1);rfl)|((with_reducible apply P2);rfl));(simp (disch:=omega);exact Red.rfl);exact Red.rfl;(focus (first|(simp;done)|omega|(simp;omega))))|((with_reducible apply Z8);(simp (disch:=omega);exact Red.rfl)))
              (with_reducible apply d_call); (simp; exact Red.rfl); exact c_around _ 10000 (by omega); (focus (first | (simp; done) | (simp; omega)))
              repeat ((with_reducible apply Z8);(simp (disch:=omega);exact Red.rfl))
              by_cases a2 : y2 ≤ y3 ∧ -10000 ≤ y2 ∧ y3 ≤ 10000
              rotate_left
              · (with_reducible apply d_call); (simp; exact Red.rfl); exact c_fitsB _ y2 y3 (-10000) 10000 (b := false) (by simp; omega); (focus (first | (simp; done) | (simp; omega)))
                repeat (first|(with_reducible first|apply X1|apply X2|apply X3|apply X8|apply X9|apply Y3|apply Y5)|((with_reducible first|apply e_end|apply d_end);(simp;exact Red.rfl))|((first|((with_reducible apply O1);rfl)|((with_reducible apply P1);rfl));(simp (disch:=omega);exact Red.rfl);exact Red.rfl;(focus (first|(simp;done)|omega|(simp;omega))))|((with_reducible first|apply Z8|apply Z9);(simp (disch:=omega);exact Red.rfl))|((with_reducible apply Z6);(simp (disch:=omega);exact Red.rfl))|((with_reducible apply W2);(simp (disch:=omega);exact Red.rfl)))
                refine q_drop (.inr rfl) (by simp; exact Red.rfl) (by simp) ⟨rfl, false, rfl, by simp; exact hno (fun h => a2 (by have := (hdec.1 h).2.1; omega))⟩
              · (with_reducible apply d_call); (simp; exact Red.rfl); exact c_fitsB _ y2 y3 (-10000) 10000 (b := true) (by simp; omega); (focus (first | (simp; done) | (simp; omega)))
                by_cases h0 : i = 0
                · subst h0
                  have hok : okS1 sy 0 := hdec.2 ⟨a1, by omega, fun h => absurd h (by omega)⟩
                  repeat (first|(with_reducible first|apply X2|apply X5|apply X8|apply Y2)|((with_reducible first|apply e_end|apply d_end);(simp;exact Red.rfl))|((first|((with_reducible apply O1);rfl)|((with_reducible apply P1);rfl));(simp (disch:=omega);exact Red.rfl);exact Red.rfl;(focus (first|(simp;done)|omega|(simp;omega))))|((with_reducible apply Z8);(simp (disch:=omega);exact Red.rfl))|((with_reducible apply Z5);(simp (disch:=omega);exact Red.rfl))|((with_reducible apply W3);(simp (disch:=omega);exact Red.rfl)))
                  refine q_again ⟨1, hlt, fun j hj => by obtain rfl : j = 0 := by omega
                                                         exact hok⟩ (by dsimp only; omega) (.inr ?_)
                  exact le_take (G := [_]) (by simp; omega) (by simp [Red]; omega)
                · have h00 : 0 < i := by omega
                  have hrp := hrp (by omega)
                  have hi1 : (0 : Int) ≤ (i : Int) - 1 := by omega
                  have hi2 : (i : Int) - 1 < n := by omega
                  by_cases a3 : z < y1
                  · have a3' : ¬ y1 ≤ z := by omega
                    have hok : okS1 sy i := hdec.2 ⟨a1, by omega, fun _ => a3⟩
                    repeat (first|(with_reducible first|apply X2|apply X5|apply X8|apply Y2)|((with_reducible first|apply e_end|apply d_end);(simp;exact Red.rfl))|((first|((with_reducible apply O1);rfl)|((with_reducible apply P1);rfl)|((with_reducible apply P2);rfl));(simp (disch:=omega) [h00, rd_old _ hid, hrp, hz, hi1, hi2, a3'];exact Red.rfl);exact Red.rfl;(focus (first|(simp;done)|omega|(simp;omega))))|((with_reducible apply Z8);(simp (disch:=omega) [h00, rd_old _ hid, hrp, hz, hi1, hi2, a3'];exact Red.rfl))|((with_reducible apply W3);(simp (disch:=omega) [h00, rd_old _ hid, hrp, hz, hi1, hi2, a3'];exact Red.rfl)))
                    refine q_again ⟨i + 1, hlt, fun j hj => by
                      rcases Nat.lt_or_ge j i with h | h
                      · exact hall j h
                      · obtain rfl : j = i := by omega
                        exact hok⟩ (by dsimp only; omega) (.inr ?_)
                    exact le_take (G := [_]) (by simp; omega) (by simp [Red]; omega)
                  · have a3' : y1 ≤ z := by omega
                    repeat (first|(with_reducible first|apply X1|apply X2|apply X3|apply X8|apply X9|apply Y3|apply Y5)|((with_reducible first|apply e_end|apply d_end);(simp;exact Red.rfl))|((first|((with_reducible apply O1);rfl)|((with_reducible apply P1);rfl)|((with_reducible apply P2);rfl));(simp (disch:=omega) [h00, rd_old _ hid, hrp, hz, hi1, hi2, a3'];exact Red.rfl);exact Red.rfl;(focus (first|(simp;done)|omega|(simp;omega))))|((with_reducible first|apply Z8|apply Z9);(simp (disch:=omega) [h00, rd_old _ hid, hrp, hz, hi1, hi2, a3'];exact Red.rfl)))
                    refine q_drop (.inr rfl) (by simp; exact Red.rfl) (by simp) ⟨rfl, false, rfl, by simp; exact hno (fun h => a3 ((hdec.1 h).2.2 (by omega)))⟩
          · obtain rfl : i = n := by omega
            repeat (first|(with_reducible first|apply X1|apply X2|apply X3|apply X4|apply X8|apply Y1|apply Y4|apply Y6)|((with_reducible apply e_end);(simp;exact Red.rfl))|((with_reducible apply O1);rfl;(simp (disch:=omega);exact Red.rfl);exact Red.rfl;(focus (first|(simp;done)|omega|(simp;omega))))|((with_reducible apply W3);(simp (disch:=omega);exact Red.rfl)))
            refine q_drop (.inr rfl) (by simp; exact Red.rfl) (by simp) ⟨rfl, true, rfl, by simp [okC]; exact ⟨hd, hn5, okSy_iff.2 hall⟩⟩
structure Ck where
  dr : Int
  sv : AV
  m : Nat
  sy : Nat → Sy
def ckR (cl : Nat → Ck) (j : Nat) : List AV := [.int .i64 (cl j).dr, (cl j).sv]
theorem avR_row {k : Nat} {r : Nat → List AV} (hl : ∀ j, (r j).length = k) {n i : Nat} (hi : i < n) : ((avR r n).drop (i * k)).take k = r i := by
  have := flat_row (f := r) hl (List.range n) i (by simpa using hi)
  simpa [avR] using this
def CkAt (H : Heap) (v : AV) (cl : Nat → Ck) (n : Nat) : Prop := ((v = .nilslice ∧ n = 0) ∨ ∃ id off ex, v = .slice id off n 2 ex ∧ rd H id off (n * 2) = some (avR (ckR cl) n)) ∧ ∀ i, i < n → SyAt H (cl i).sv (cl i).sy (cl i).m ∧ (cl i).m ≤ 1000000
theorem CkAt.len {H : Heap} {v : AV} {cl : Nat → Ck} {n : Nat} (h : CkAt H v cl n) : slLen v n := by
  rcases h.1 with h | ⟨id, off, ex, h, _⟩
  · exact .inl h
  · exact .inr ⟨id, off, 2, ex, h⟩
theorem CkAt.sc {H : Heap} {v : AV} {cl : Nat → Ck} {n : Nat} (h : CkAt H v cl n) {m : Nat} (hm : H.length ≤ m) : v.sc m = true := by
  rcases h.1 with ⟨rfl, _⟩ | ⟨id, off, ex, rfl, hr⟩
  · rfl
  · have := rd_lt hr
    simp [AV.sc]; omega
theorem CkAt.app {H : Heap} {v : AV} {cl : Nat → Ck} {n : Nat} (h : CkAt H v cl n) (G : Heap) : CkAt (H ++ G) v cl n := by
  refine ⟨?_, fun i hi => ⟨(h.2 i hi).1.app G, (h.2 i hi).2⟩⟩
  rcases h.1 with h | ⟨id, off, ex, h, hr⟩
  · exact .inl h
  · exact .inr ⟨id, off, ex, h, by rw [rd_old _ (rd_lt hr)]; exact hr⟩
theorem CkAt.row {H : Heap} {v : AV} {cl : Nat → Ck} {n : Nat} (h : CkAt H v cl n) (h0 : 0 < n) : ∃ id off ex, v = .slice id off n 2 ex ∧ id < H.length ∧ ∀ i, i < n → rd H id (off + i * 2) 2 = some [.int .i64 (cl i).dr, (cl i).sv] := by
  rcases h.1 with ⟨_, h⟩ | ⟨id, off, ex, h, hr⟩
  · omega
  · refine ⟨id, off, ex, h, rd_lt hr, fun i hi => ?_⟩
    have := rd_at hr hi
    rw [avR_row (k := 2) (fun _ => rfl) hi] at this
    exact this
def okP (dr : Int) (sy : Nat → Sy) (i k : Nat) : Prop := ¬ drF dr ((sy i).at_ - (sy k).at_) < max ((sy i).lo - (sy k).hi) ((sy k).lo - (sy i).hi)
def okX (c : Ck) : Prop := okC c.dr c.m c.sy ∧ ∀ i, i < c.m → ∀ k, k < i → okP c.dr c.sy i k
theorem sy_inc {n : Nat} {sy : Nat → Sy} (h : okSy n sy) : ∀ d k, k + d + 1 < n → (sy k).at_ < (sy (k + d + 1)).at_
  | 0, k, hk => by
    have := (h (k + 1) hk).2.2.2.2 (by omega)
    simpa using this
  | d + 1, k, hk => by
    have h1 := sy_inc h d k (by omega)
    have h2 := (h (k + (d + 1) + 1) hk).2.2.2.2 (by omega)
    have e : k + (d + 1) + 1 - 1 = k + d + 1 := by omega
    rw [e] at h2
    omega
theorem sy_lt {n : Nat} {sy : Nat → Sy} (h : okSy n sy) {i k : Nat} (hi : i < n) (hk : k < i) : (sy k).at_ < (sy i).at_ := by
  obtain ⟨d, rfl⟩ : ∃ d, i = k + d + 1 := ⟨i - k - 1, by omega⟩
  exact sy_inc h d k hi
set_option maxHeartbeats 4000000 in
theorem c_right5 (H : Heap) (v : AV) (cl : Nat → Ck) (n : Nat) (hs : CkAt H v cl n) (hn : n ≤ 1000000) :
    ACalls Try.prog F.beam_right [v] H (fun v h' => h' = H ∧ ∃ r : Nat, v = .int .i64 r ∧ r ≤ n ∧ (∀ j, j < r → okX (cl j)) ∧ (r < n → ¬ okX (cl r))) := by
  have hsc := fun k => hs.sc (m := H.length + k) (by omega)
  have hln := hs.len
  refine acalls_of ok_beam_right rfl fun hcl => ?_
  unfold ac_beam_right
  simp only [argsT, Nat.zero_add, Nat.reduceAdd]
  repeat (first|(with_reducible first|apply X1|apply X2|apply X5|apply X7|apply X8)|((with_reducible apply e_end);(simp;exact Red.rfl))|((with_reducible apply O1);rfl;(simp (disch:=omega);exact Red.rfl);exact Red.rfl;(focus (first|(simp;done)|omega|(simp;omega)))))
  (with_reducible apply e_op); rfl; exact den_sl (by simp) hln; exact Red.rfl; trivial
  repeat (first|(with_reducible first|apply X6|apply X8)|((with_reducible apply e_end);(simp;exact Red.rfl))|((with_reducible apply O1);rfl;(simp (disch:=omega);exact Red.rfl);exact Red.rfl;(focus (first|(simp;done)|omega|(simp;omega)))))
  refine e_loop (ι := { i : Nat // i ≤ n ∧ ∀ j, j < i → okX (cl j) })
    (fun i => [(3, .int .i64 i.1), (10, v), (11, .int .i64 n), (12, .int .i64 i.1)])
    (fun _ => H) (fun i => n - i.1) ⟨0, by omega, fun j hj => absurd hj (by omega)⟩ ?_ ?_
  · exact .inl rfl
  · rintro ⟨i, hi, hall⟩
    dsimp only
    by_cases hlt : i < n
    · have hlt2 : (i : Int) < n := by omega
      obtain ⟨id, off, ex, rfl, hid, row⟩ := hs.row (by omega)
      have ri := row i hlt
      obtain ⟨hsy, hm⟩ := hs.2 i hlt
      have cc := fun G => c_compared (H ++ G) (cl i).dr (cl i).sv (cl i).sy (cl i).m (hsy.app G) hm
      have hstep : okX (cl i) → ∀ j, j < i + 1 → okX (cl j) := fun h j hj => by
        rcases Nat.lt_or_ge j i with h1 | h1
        · exact hall j h1
        · obtain rfl : j = i := by omega
          exact h
      have hdef : okX (cl i) ↔ okC (cl i).dr (cl i).m (cl i).sy ∧ ∀ a, a < (cl i).m → ∀ k, k < a → okP (cl i).dr (cl i).sy a k := Iff.rfl
      generalize hci : cl i = c at *
      obtain ⟨dr, sv, m, sy⟩ := c
      dsimp only at *
      rcases hsy with ⟨rfl, rfl⟩ | ⟨sid, soff, sex, rfl, hr⟩
      · repeat (first|(with_reducible first|apply X1|apply X2|apply X5|apply X6|apply X8)|((with_reducible apply e_end);(simp;exact Red.rfl))|((first|((with_reducible apply O1);rfl)|((with_reducible apply O2);rfl));(simp (disch:=omega) [hlt, hlt2, ri];exact Red.rfl);exact Red.rfl;(focus (first|(simp;done)|omega|(simp;omega))))|((with_reducible apply Z9);(simp (disch:=omega) [hlt, hlt2, ri];exact Red.rfl)))
        (with_reducible apply e_call); (simp; exact Red.rfl); exact cc _
        rintro _ _ ⟨rfl, b, rfl, hb⟩
        have hbad : ¬ okX ⟨dr, .nilslice, 0, sy⟩ := fun h => by have := (hdef.1 h).1.2.1; omega
        obtain rfl : b = false := by
          cases b with
          | false => rfl
          | true => have := (hb.1 rfl).2.1; omega
        repeat (first|(with_reducible first|apply X1|apply X2|apply X3|apply X4|apply X8|apply Y1|apply Y4|apply Y6|apply Y8)|((with_reducible apply q_block_other);decide)|((with_reducible apply e_end);(simp;exact Red.rfl))|((with_reducible apply O1);rfl;(simp (disch:=omega);exact Red.rfl);exact Red.rfl;(focus (first|(simp;done)|omega|(simp;omega))))|((with_reducible apply Z9);(simp (disch:=omega);exact Red.rfl)))
        refine q_drop (.inr rfl) (by simp; exact Red.rfl) (by simp) ⟨rfl, i, rfl, by omega, hall, fun _ => by rw [hci]; exact hbad⟩
      · have hsid := rd_lt hr
        repeat (first|(with_reducible first|apply X1|apply X2|apply X5|apply X6|apply X8)|((with_reducible apply e_end);(simp;exact Red.rfl))|((first|((with_reducible apply O1);rfl)|((with_reducible apply O2);rfl));(simp (disch:=omega) [hlt, hlt2, ri];exact Red.rfl);exact Red.rfl;(focus (first|(simp;done)|omega|(simp;omega))))|((with_reducible apply Z9);(simp (disch:=omega) [hlt, hlt2, ri];exact Red.rfl)))
        (with_reducible apply e_call); (simp; exact Red.rfl); exact cc _
        rintro _ _ ⟨rfl, b, rfl, hb⟩
        cases b with
        | false =>
          have hbad : ¬ okX ⟨dr, .slice sid soff m 3 sex, m, sy⟩ := fun h => by
            have := hb.2 (hdef.1 h).1; cases this
          repeat (first|(with_reducible first|apply X1|apply X2|apply X3|apply X4|apply X8|apply Y1|apply Y4|apply Y6|apply Y8)|((with_reducible apply q_block_other);decide)|((with_reducible apply e_end);(simp;exact Red.rfl))|((with_reducible apply O1);rfl;(simp (disch:=omega);exact Red.rfl);exact Red.rfl;(focus (first|(simp;done)|omega|(simp;omega))))|((with_reducible apply Z9);(simp (disch:=omega);exact Red.rfl)))
          refine q_drop (.inr rfl) (by simp; exact Red.rfl) (by simp) ⟨rfl, i, rfl, by omega, hall, fun _ => by rw [hci]; exact hbad⟩
        | true =>
          have hok := hb.1 rfl
          obtain ⟨hdr, hm5, hsyn⟩ := hok
          have srow : ∀ a, a < m → rd H sid (soff + a * 3) 3 = some (sy a).av := fun a ha => by
            have := rd_at hr ha
            rw [(plain_sy sy).row ha] at this
            exact this
          repeat (first|(with_reducible first|apply X1|apply X2|apply X5|apply X6|apply X8)|((with_reducible apply e_end);(simp;exact Red.rfl))|((with_reducible apply O1);rfl;(simp (disch:=omega);exact Red.rfl);exact Red.rfl;(focus (first|(simp;done)|omega|(simp;omega))))|((with_reducible apply W3);(simp (disch:=omega);exact Red.rfl)))
          refine e_loop (ι := { a : Nat // a ≤ m ∧ ∀ a', a' < a → ∀ k, k < a' → okP dr sy a' k })
            (fun a => [(3, .int .i64 i), (5, .ptr H.length 0), (10, .slice id off n 2 ex), (11, .int .i64 n), (12, .int .i64 i), (20, .slice sid soff m 3 sex), (21, .int .i64 m), (22, .int .i64 a.1)])
            (fun _ => H ++ [.cells [.int .i64 dr, .slice sid soff m 3 sex] true]) (fun a => m - a.1) ⟨0, by omega, fun j hj => absurd hj (by omega)⟩ ?_ ?_
          · exact .inl rfl
          · rintro ⟨a, ha, hga⟩
            dsimp only
            by_cases hla : a < m
            · have hla2 : (a : Int) < m := by omega
              have ra := srow a hla
              have oa := hsyn a hla
              simp only [Sy.av] at ra
              repeat (first|(with_reducible first|apply X1|apply X2|apply X5|apply X6|apply X8)|((with_reducible apply e_end);(simp;exact Red.rfl))|((first|((with_reducible apply O1);rfl)|((with_reducible apply O2);rfl));(simp (disch:=omega) [hla, hla2, rd_old _ hsid, ra];exact Red.rfl);exact Red.rfl;(focus (first|(simp;done)|omega|(simp;omega))))|((with_reducible apply Z9);(simp (disch:=omega) [hla, hla2, rd_old _ hsid, ra];exact Red.rfl)))
              refine e_loop (ι := { k : Nat // k ≤ a ∧ ∀ k', k' < k → okP dr sy a k' })
                (fun k => [(3, .int .i64 i), (5, .ptr H.length 0), (7, .ptr (H.length + 1) 0), (10, .slice id off n 2 ex), (11, .int .i64 n), (12, .int .i64 i), (20, .slice sid soff m 3 sex), (21, .int .i64 m), (22, .int .i64 a), (30, .slice sid soff a 3 (sex && decide ((a : Int) = m))), (31, .int .i64 a), (32, .int .i64 k.1)])
                (fun _ => H ++ [.cells [.int .i64 dr, .slice sid soff m 3 sex] true, .cells [.int .i64 (sy a).at_, .int .i64 (sy a).lo, .int .i64 (sy a).hi] true]) (fun k => a - k.1) ⟨0, by omega, fun j hj => absurd hj (by omega)⟩ ?_ ?_
              · exact .inl rfl
              · rintro ⟨k, hk, hgk⟩
                dsimp only
                by_cases hlk : k < a
                · have hlk2 : (k : Int) < a := by omega
                  have rk := srow k (by omega)
                  have ok := hsyn k (by omega)
                  have hlt3 := sy_lt hsyn hla hlk
                  have cd := fun G => c_drifts (H ++ G) dr ((sy a).at_ - (sy k).at_) (.slice sid soff m 3 sex) m hdr (by omega) (.inr ⟨_, _, _, _, rfl⟩)
                  have hpd : okP dr sy a k ↔ ¬ drF dr ((sy a).at_ - (sy k).at_) < max ((sy a).lo - (sy k).hi) ((sy k).lo - (sy a).hi) := Iff.rfl
                  simp only [Sy.av] at rk
                  have h1 : IntKind.i64.wrap ((sy a).at_ - (sy k).at_) = (sy a).at_ - (sy k).at_ := by rw [wrap64] <;> omega
                  have h2 : IntKind.i64.wrap ((sy a).lo - (sy k).hi) = (sy a).lo - (sy k).hi := by rw [wrap64] <;> omega
                  have h3 : IntKind.i64.wrap ((sy k).lo - (sy a).hi) = (sy k).lo - (sy a).hi := by rw [wrap64] <;> omega
                  have h6 : ∀ a b : Int, (if a < b then b else a) = max a b := fun a b => by simp only [Int.max_def]; split <;> split <;> omega
                  repeat (first|(with_reducible first|apply X1|apply X2|apply X5|apply X6|apply X8|apply Y9)|((with_reducible apply e_end);(simp;exact Red.rfl))|((first|((with_reducible apply O1);rfl)|((with_reducible apply O2);rfl)|((with_reducible apply P1);rfl)|((with_reducible apply P2);rfl));(simp (disch:=omega) [hlk, hlk2, rd_old _ hsid, rk, h1, h2, h3];exact Red.rfl);exact Red.rfl;(focus (first|(simp;done)|omega|(simp;omega))))|((with_reducible apply Z9);(simp (disch:=omega) [hlk, hlk2, rd_old _ hsid, rk, h1, h2, h3];exact Red.rfl)))
                  (with_reducible apply d_call); (simp; exact Red.rfl); exact cd _; (focus (first | (simp; done) | (simp; omega)))
                  by_cases hp : okP dr sy a k
                  · have hp2 := hpd.1 hp
                    repeat (first|(with_reducible first|apply X2|apply X5|apply X8|apply Y2)|((with_reducible first|apply e_end|apply d_end);(simp;exact Red.rfl))|((first|((with_reducible apply O1);rfl)|((with_reducible apply P1);rfl));(simp (disch:=omega) [h2, h3, h6, hp2];exact Red.rfl);exact Red.rfl;(focus (first|(simp;done)|omega|(simp;omega))))|((with_reducible apply W3);(simp (disch:=omega) [h2, h3, h6, hp2];exact Red.rfl))|((with_reducible apply P6);rfl;(simp (disch:=omega) [h2, h3, h6, hp2];exact Red.rfl);exact Red.rfl;(focus (first|(simp [pr];done)|(simp [pr];omega)))))
                    refine q_again ⟨k + 1, hlk, fun k' hk' => by
                      rcases Nat.lt_or_ge k' k with h | h
                      · exact hgk k' h
                      · obtain rfl : k' = k := by omega
                        exact hp⟩ (by dsimp only; omega) (.inr ?_)
                    exact le_take (G := [_, _]) (by simp; omega) (by simp [Red]; omega)
                  · have hp2 : drF dr ((sy a).at_ - (sy k).at_) < max ((sy a).lo - (sy k).hi) ((sy k).lo - (sy a).hi) := by
                      rcases Int.lt_or_le (drF dr ((sy a).at_ - (sy k).at_)) (max ((sy a).lo - (sy k).hi) ((sy k).lo - (sy a).hi)) with h | h
                      · exact h
                      · exact absurd (hpd.2 (by omega)) hp
                    have hbad : ¬ okX ⟨dr, .slice sid soff m 3 sex, m, sy⟩ := fun h => hp ((hdef.1 h).2 a hla k hlk)
                    repeat (first|(with_reducible first|apply X1|apply X2|apply X3|apply X4|apply X8|apply Y1|apply Y4|apply Y6|apply Y8)|((with_reducible apply q_block_other);decide)|((with_reducible first|apply e_end|apply d_end);(simp;exact Red.rfl))|((first|((with_reducible apply O1);rfl)|((with_reducible apply P1);rfl));(simp (disch:=omega) [h2, h3, h6, hp2];exact Red.rfl);exact Red.rfl;(focus (first|(simp;done)|omega|(simp;omega))))|((with_reducible apply Z9);(simp (disch:=omega) [h2, h3, h6, hp2];exact Red.rfl))|((with_reducible apply P6);rfl;(simp (disch:=omega) [h2, h3, h6, hp2];exact Red.rfl);exact Red.rfl;(focus (first|(simp [pr];done)|(simp [pr];omega)))))
                    refine q_drop (.inr rfl) (by simp; exact Red.rfl) (by simp) ⟨rfl, i, rfl, by omega, hall, fun _ => by rw [hci]; exact hbad⟩
                · obtain rfl : k = a := by omega
                  repeat (first|(with_reducible first|apply X1|apply X2|apply X4|apply X8|apply Y1|apply Y2|apply Y4|apply Y6)|((with_reducible apply e_end);(simp;exact Red.rfl))|((with_reducible apply O1);rfl;(simp (disch:=omega);exact Red.rfl);exact Red.rfl;(focus (first|(simp;done)|omega|(simp;omega))))|((with_reducible apply W3);(simp (disch:=omega);exact Red.rfl)))
                  refine q_again ⟨k + 1, hla, fun a' ha' => by
                    rcases Nat.lt_or_ge a' k with h | h
                    · exact hga a' h
                    · obtain rfl : a' = k := by omega
                      exact hgk⟩ (by dsimp only; omega) (.inr ?_)
                  exact le_take (G := [_]) (by simp; omega) (by simp [Red]; omega)
            · obtain rfl : a = m := by omega
              repeat (first|(with_reducible first|apply X1|apply X2|apply X4|apply X8|apply Y1|apply Y2|apply Y4|apply Y6)|((with_reducible apply e_end);(simp;exact Red.rfl))|((with_reducible apply O1);rfl;(simp (disch:=omega);exact Red.rfl);exact Red.rfl;(focus (first|(simp;done)|omega|(simp;omega))))|((with_reducible apply W3);(simp (disch:=omega);exact Red.rfl)))
              refine q_again ⟨i + 1, hlt, hstep (hdef.2 ⟨hb.1 rfl, hga⟩)⟩ (by dsimp only; omega) (.inr ?_)
              exact le_drop (by simp; omega)
    · obtain rfl : i = n := by omega
      repeat (first|(with_reducible first|apply X1|apply X2|apply X3|apply X4|apply X8|apply Y1|apply Y4|apply Y6|apply Y8)|((with_reducible apply e_end);(simp;exact Red.rfl))|((with_reducible apply O1);rfl;(simp (disch:=omega);exact Red.rfl);exact Red.rfl;(focus (first|(simp;done)|omega|(simp;omega))))|((with_reducible apply W3);(simp (disch:=omega);exact Red.rfl)))
      refine q_stay (.inr rfl) (by simp; exact Red.rfl) ⟨rfl, i, rfl, Nat.le_refl _, hall, fun h => absurd h (by omega)⟩
noncomputable def okN (cl : Nat → Ck) : Nat → Nat
  | 0 => 0
  | n + 1 => open Classical in if okN cl n = n ∧ okX (cl n) then n + 1 else okN cl n
theorem okN_le (cl : Nat → Ck) : ∀ n, okN cl n ≤ n
  | 0 => Nat.le_refl _
  | n + 1 => by
    have := okN_le cl n
    simp only [okN]
    split <;> omega
theorem okN_eq {cl : Nat → Ck} : ∀ {n r : Nat}, r ≤ n → (∀ j, j < r → okX (cl j)) → (r < n → ¬ okX (cl r)) → r = okN cl n
  | 0, r, h, _, _ => by simp only [okN]; omega
  | n + 1, r, h, h1, h2 => by
    simp only [okN]
    by_cases hr : r = n + 1
    · subst hr
      have e : n = okN cl n := okN_eq (Nat.le_refl n) (fun j hj => h1 j (by omega)) (fun h => by omega)
      rw [if_pos ⟨e.symm, h1 n (by omega)⟩]
    · have e : r = okN cl n := okN_eq (by omega) h1 (fun h => h2 (by omega))
      rw [if_neg]
      · exact e
      · rintro ⟨g1, g2⟩
        obtain rfl : r = n := by omega
        exact h2 (by omega) g2
theorem okN_all {cl : Nat → Ck} {n : Nat} : okN cl n = n ↔ ∀ i, i < n → okX (cl i) := by
  constructor
  · intro h
    induction n with
    | zero => intro i hi; omega
    | succ n ih =>
      simp only [okN] at h
      split at h
      · rename_i h2
        intro i hi
        rcases Nat.lt_or_ge i n with h3 | h3
        · exact ih h2.1 i h3
        · obtain rfl : i = n := by omega
          exact h2.2
      · have := okN_le cl n; omega
  · intro h
    exact (okN_eq (Nat.le_refl n) h (fun h => by omega)).symm
theorem c_right6 (H : Heap) (v : AV) (cl : Nat → Ck) (n : Nat) (hs : CkAt H v cl n) (hn : n ≤ 1000000) :
    ACalls Try.prog F.beam_right [v] H (fun v h' => v = .int .i64 (okN cl n) ∧ h' = H) :=
  (c_right5 H v cl n hs hn).mono fun v h' ⟨h1, r, h2, h3, h4, h5⟩ => ⟨by rw [h2, okN_eq h3 h4 h5], h1⟩
theorem c_w5 (H : Heap) (n lo hi : Int) {b : Bool} (hb : b = true ↔ lo ≤ n ∧ n ≤ hi) : ACalls Try.prog F.ref05_within [.int .i64 n, .int .i64 lo, .int .i64 hi] H (fun v h' => v = .bool b ∧ h' = H) := by
  refine acalls_of ok_ref05_within rfl fun hcl => ?_
  unfold ac_ref05_within
  simp only [argsT, Nat.zero_add, Nat.reduceAdd]
  by_cases h1 : lo ≤ n
  · by_cases h2 : n ≤ hi
    · obtain rfl : b = true := hb.2 ⟨h1, h2⟩
      repeat (first|(with_reducible first|apply X1|apply X2|apply X3|apply X8)|((with_reducible apply e_end);(simp;exact Red.rfl))|((with_reducible apply O1);rfl;(simp (disch:=omega) [h1, h2];exact Red.rfl);exact Red.rfl;(focus (first|(simp;done)|omega|(simp;omega))))|((with_reducible apply Z7);(simp (disch:=omega) [h1, h2];exact Red.rfl)))
      refine q_stay (.inr rfl) (by simp; exact Red.rfl) ⟨rfl, rfl⟩
    · obtain rfl : b = false := by
        cases b with
        | false => rfl
        | true => exact absurd (hb.1 rfl).2 h2
      repeat (first|(with_reducible first|apply X1|apply X2|apply X3|apply X8)|((with_reducible apply e_end);(simp;exact Red.rfl))|((with_reducible apply O1);rfl;(simp (disch:=omega) [h1, h2];exact Red.rfl);exact Red.rfl;(focus (first|(simp;done)|omega|(simp;omega))))|((with_reducible apply Z7);(simp (disch:=omega) [h1, h2];exact Red.rfl)))
      refine q_stay (.inr rfl) (by simp; exact Red.rfl) ⟨rfl, rfl⟩
  · obtain rfl : b = false := by
      cases b with
      | false => rfl
      | true => exact absurd (hb.1 rfl).1 h1
    repeat (first|(with_reducible first|apply X1|apply X2|apply X3|apply X8)|((with_reducible apply e_end);(simp;exact Red.rfl))|((with_reducible apply O1);rfl;(simp (disch:=omega) [h1];exact Red.rfl);exact Red.rfl;(focus (first|(simp;done)|omega|(simp;omega))))|((with_reducible apply Z1);(simp (disch:=omega) [h1];exact Red.rfl)))
    refine q_stay (.inr rfl) (by simp; exact Red.rfl) ⟨rfl, rfl⟩
set_option maxHeartbeats 4000000 in
theorem c_rclock (H : Heap) (c : Ck) (hs : SyAt H c.sv c.sy c.m) (hn : c.m ≤ 1000000) :
    ACalls Try.prog F.ref05_clock [.agg [.int .i64 c.dr, c.sv]] H (fun v h' => h' = H ∧ ∃ b : Bool, v = .bool b ∧ (b = true ↔ okX c)) := by
  have hdef : okX c ↔ okC c.dr c.m c.sy ∧ ∀ a, a < c.m → ∀ k, k < a → okP c.dr c.sy a k := Iff.rfl
  generalize hX : okX c = X at *
  obtain ⟨dr, v, n, sy⟩ := c
  dsimp only at *
  have hsc := fun k => hs.sc (m := H.length + k) (by omega)
  refine acalls_of ok_ref05_clock rfl fun hcl => ?_
  unfold ac_ref05_clock
  simp only [argsT, Nat.zero_add, Nat.reduceAdd]
  by_cases hd : 0 ≤ dr ∧ dr ≤ 1000
  rotate_left
  · have hbad : ¬ X := fun h => hd (hdef.1 h).1.1
    have hscal := hs.len.scal
    repeat (first|(with_reducible first|apply X1|apply X2|apply X8)|((with_reducible apply e_end);(simp;exact Red.rfl))|((with_reducible apply O1);rfl;(simp (disch:=omega);exact Red.rfl);exact Red.rfl;(focus (first|(simp;done)|omega|(simp;omega)))))
    (with_reducible apply e_call); (simp; exact Red.rfl); exact c_w5 _ dr 0 1000 (b := false) (by simp; omega)
    rintro _ _ ⟨rfl, rfl⟩
    repeat (first|(with_reducible first|apply X1|apply X2|apply X3|apply X8|apply X9)|((with_reducible apply e_end);(simp;exact Red.rfl))|((with_reducible apply O1);rfl;(simp (disch:=omega);exact Red.rfl);exact Red.rfl;(focus (first|(simp;done)|omega|(simp;omega))))|((with_reducible apply Z9);(simp (disch:=omega);exact Red.rfl))|((with_reducible apply Z2);(simp (disch:=omega);exact Red.rfl)))
    refine q_drop (.inr rfl) (by simp; exact Red.rfl) (by simp) ⟨rfl, false, rfl, by simp [hbad]⟩
  · rcases hs with ⟨rfl, rfl⟩ | ⟨id, off, ex, rfl, hr⟩
    · have hbad : ¬ X := fun h => by have := (hdef.1 h).1.2.1; omega
      repeat (first|(with_reducible first|apply X1|apply X2|apply X8)|((with_reducible apply e_end);(simp;exact Red.rfl))|((with_reducible apply O1);rfl;(simp (disch:=omega);exact Red.rfl);exact Red.rfl;(focus (first|(simp;done)|omega|(simp;omega)))))
      (with_reducible apply e_call); (simp; exact Red.rfl); exact c_w5 _ dr 0 1000 (b := true) (by simp; omega)
      rintro _ _ ⟨rfl, rfl⟩
      repeat (first|((with_reducible apply O1);rfl;(simp (disch:=omega);exact Red.rfl);exact Red.rfl;(focus (first|(simp;done)|omega|(simp;omega))))|((with_reducible apply Z7);(simp (disch:=omega);exact Red.rfl)))
      (with_reducible apply e_call); (simp; exact Red.rfl); exact c_w5 _ 0 1 5 (b := false) (by simp)
      rintro _ _ ⟨rfl, rfl⟩
      repeat (first|(with_reducible first|apply X1|apply X2|apply X3|apply X8|apply X9)|((with_reducible apply e_end);(simp;exact Red.rfl))|((with_reducible apply O1);rfl;(simp (disch:=omega);exact Red.rfl);exact Red.rfl;(focus (first|(simp;done)|omega|(simp;omega))))|((with_reducible first|apply Z7|apply Z9);(simp (disch:=omega);exact Red.rfl)))
      refine q_drop (.inr rfl) (by simp; exact Red.rfl) (by simp) ⟨rfl, false, rfl, by simp [hbad]⟩
    · have hid := rd_lt hr
      repeat (first|(with_reducible first|apply X1|apply X2|apply X8)|((with_reducible apply e_end);(simp;exact Red.rfl))|((with_reducible apply O1);rfl;(simp (disch:=omega);exact Red.rfl);exact Red.rfl;(focus (first|(simp;done)|omega|(simp;omega)))))
      (with_reducible apply e_call); (simp; exact Red.rfl); exact c_w5 _ dr 0 1000 (b := true) (by simp; omega)
      rintro _ _ ⟨rfl, rfl⟩
      repeat (first|((with_reducible apply O1);rfl;(simp (disch:=omega);exact Red.rfl);exact Red.rfl;(focus (first|(simp;done)|omega|(simp;omega))))|((with_reducible apply Z7);(simp (disch:=omega);exact Red.rfl)))
      by_cases hn5 : 1 ≤ n ∧ n ≤ 5
      rotate_left
      · have hbad : ¬ X := fun h => hn5 (hdef.1 h).1.2.1
        (with_reducible apply e_call); (simp; exact Red.rfl); exact c_w5 _ n 1 5 (b := false) (by simp; omega)
        rintro _ _ ⟨rfl, rfl⟩
        repeat (first|(with_reducible first|apply X1|apply X2|apply X3|apply X8|apply X9)|((with_reducible apply e_end);(simp;exact Red.rfl))|((with_reducible apply O1);rfl;(simp (disch:=omega);exact Red.rfl);exact Red.rfl;(focus (first|(simp;done)|omega|(simp;omega))))|((with_reducible first|apply Z7|apply Z9);(simp (disch:=omega);exact Red.rfl)))
        refine q_drop (.inr rfl) (by simp; exact Red.rfl) (by simp) ⟨rfl, false, rfl, by simp [hbad]⟩
      · (with_reducible apply e_call); (simp; exact Red.rfl); exact c_w5 _ n 1 5 (b := true) (by simp; omega)
        rintro _ _ ⟨rfl, rfl⟩
        repeat (first|(with_reducible first|apply X1|apply X2|apply X5|apply X6|apply X8)|((with_reducible apply e_end);(simp;exact Red.rfl))|((with_reducible apply O1);rfl;(simp (disch:=omega);exact Red.rfl);exact Red.rfl;(focus (first|(simp;done)|omega|(simp;omega))))|((with_reducible apply Z7);(simp (disch:=omega);exact Red.rfl))|((with_reducible apply W3);(simp (disch:=omega);exact Red.rfl)))
        have row : ∀ i, i < n → rd H id (off + i * 3) 3 = some (sy i).av := fun i hi => by
          have := rd_at hr hi
          rw [(plain_sy sy).row hi] at this
          exact this
        refine e_loop (ι := { i : Nat // i ≤ n ∧ ∀ j, j < i → okS1 sy j })
          (fun i => [(1, .ptr H.length 0), (3, .int .i64 i.1)])
          (fun _ => H ++ [.cells [.int .i64 dr, .slice id off n 3 ex] true]) (fun i => n - i.1) ⟨0, by omega, fun j hj => absurd hj (by omega)⟩ ?_ ?_
        · exact .inl rfl
        · rintro ⟨i, hi, hall⟩
          dsimp only
          by_cases hlt : i < n
          · have hlt2 : (i : Int) < n := by omega
            have ri := row i hlt
            have hrp : 0 < i → rd H id (off + (i - 1) * 3) 1 = some [.int .i64 (sy (i - 1)).at_] := fun h => by
              have := rd_sub (row (i - 1) (by omega)) (j := 0) (m := 1) (by omega)
              simpa [Sy.av] using this
            have hdec : okS1 sy i ↔ (0 ≤ (sy i).at_ ∧ (sy i).at_ ≤ 86400000) ∧ (-10000 ≤ (sy i).lo ∧ (sy i).lo ≤ (sy i).hi ∧ (sy i).hi ≤ 10000) ∧ (0 < i → (sy (i - 1)).at_ < (sy i).at_) := Iff.rfl
            have hno : ¬ okS1 sy i → ¬ X := fun h h2 => h (okSy_iff.1 (hdef.1 h2).1.2.2 i hlt)
            have hstep : okS1 sy i → ∀ j, j < i + 1 → okS1 sy j := fun h j hj => by
              rcases Nat.lt_or_ge j i with h1 | h1
              · exact hall j h1
              · obtain rfl : j = i := by omega
                exact h
            generalize sy i = y at ri hdec
            generalize (sy (i - 1)).at_ = z at hrp hdec
            obtain ⟨y1, y2, y3⟩ := y
            simp only [Sy.av] at ri
            dsimp only at hdec
            have hz : ((i : Int) - 1).toNat = i - 1 := by omega
            repeat (first|(with_reducible first|apply X1|apply X2|apply X5|apply X6|apply X8|apply Y9)|((with_reducible apply e_end);(simp;exact Red.rfl))|((first|((with_reducible apply O1);rfl)|((with_reducible apply O2);rfl)|((with_reducible apply P1);rfl)|((with_reducible apply P2);rfl));(simp (disch:=omega) [hlt, hlt2, rd_old _ hid, ri];exact Red.rfl);exact Red.rfl;(focus (first|(simp;done)|omega|(simp;omega))))|((with_reducible apply Z9);(simp (disch:=omega) [hlt, hlt2, rd_old _ hid, ri];exact Red.rfl)))
            by_cases a1 : 0 ≤ y1 ∧ y1 ≤ 86400000
            rotate_left
            · have hbad := hno (fun h => a1 (hdec.1 h).1)
              (with_reducible apply d_call); (simp; exact Red.rfl); exact c_w5 _ y1 0 86400000 (b := false) (by simp; omega); (focus (first | (simp; done) | (simp; omega)))
              repeat (first|(with_reducible first|apply X1|apply X2|apply X3|apply X8|apply X9|apply Y3|apply Y5)|((with_reducible first|apply e_end|apply d_end);(simp;exact Red.rfl))|((first|((with_reducible apply O1);rfl)|((with_reducible apply P1);rfl));(simp (disch:=omega);exact Red.rfl);exact Red.rfl;(focus (first|(simp;done)|omega|(simp;omega))))|((with_reducible apply Z9);(simp (disch:=omega);exact Red.rfl))|((with_reducible apply Z6);(simp (disch:=omega);exact Red.rfl))|((with_reducible apply W2);(simp (disch:=omega);exact Red.rfl)))
              refine q_drop (.inr rfl) (by simp; exact Red.rfl) (by simp) ⟨rfl, false, rfl, by simp [hbad]⟩
            · (with_reducible apply d_call); (simp; exact Red.rfl); exact c_w5 _ y1 0 86400000 (b := true) (by simp; omega); (focus (first | (simp; done) | (simp; omega)))
              by_cases a3 : 0 < i → z < y1
              rotate_left
              · have h00 : 0 < i := by omega
                have hrp := hrp h00
                have hi1 : (0 : Int) ≤ (i : Int) - 1 := by omega
                have hi2 : (i : Int) - 1 < n := by omega
                have a3' : y1 ≤ z := by omega
                have hbad := hno (fun h => a3 (hdec.1 h).2.2)
                repeat (first|(with_reducible first|apply X1|apply X2|apply X3|apply X8|apply X9|apply Y3|apply Y5)|((with_reducible first|apply e_end|apply d_end);(simp;exact Red.rfl))|((first|((with_reducible apply O1);rfl)|((with_reducible apply P1);rfl)|((with_reducible apply P2);rfl));(simp (disch:=omega) [h00, rd_old _ hid, hrp, hz, hi1, hi2, a3'];exact Red.rfl);exact Red.rfl;(focus (first|(simp;done)|omega|(simp;omega))))|((with_reducible first|apply Z8|apply Z9);(simp (disch:=omega) [h00, rd_old _ hid, hrp, hz, hi1, hi2, a3'];exact Red.rfl))|((with_reducible apply Z6);(simp (disch:=omega) [h00, rd_old _ hid, hrp, hz, hi1, hi2, a3'];exact Red.rfl)))
                refine q_drop (.inr rfl) (by simp; exact Red.rfl) (by simp) ⟨rfl, false, rfl, by simp [hbad]⟩
              · by_cases h00 : 0 < i
                · have hrp := hrp h00
                  have hi1 : (0 : Int) ≤ (i : Int) - 1 := by omega
                  have hi2 : (i : Int) - 1 < n := by omega
                  have a3' : ¬ y1 ≤ z := by have := a3 h00; omega
                  by_cases b1 : y2 < -10000
                  · have hbad := hno (fun h => by have := (hdec.1 h).2.1; omega)
                    repeat (first|(with_reducible first|apply X1|apply X2|apply X3|apply X8|apply X9|apply Y3|apply Y5)|((with_reducible first|apply e_end|apply d_end);(simp;exact Red.rfl))|((first|((with_reducible apply O1);rfl)|((with_reducible apply P1);rfl)|((with_reducible apply P2);rfl));(simp (disch:=omega) [h00, rd_old _ hid, hrp, hz, hi1, hi2, a3', b1];exact Red.rfl);exact Red.rfl;(focus (first|(simp;done)|omega|(simp;omega))))|((with_reducible first|apply Z8|apply Z9);(simp (disch:=omega) [h00, rd_old _ hid, hrp, hz, hi1, hi2, a3', b1];exact Red.rfl))|((with_reducible apply Z6);(simp (disch:=omega) [h00, rd_old _ hid, hrp, hz, hi1, hi2, a3', b1];exact Red.rfl)))
                    refine q_drop (.inr rfl) (by simp; exact Red.rfl) (by simp) ⟨rfl, false, rfl, by simp [hbad]⟩
                  by_cases b2 : y3 < y2
                  · have hbad := hno (fun h => by have := (hdec.1 h).2.1; omega)
                    repeat (first|(with_reducible first|apply X1|apply X2|apply X3|apply X8|apply X9|apply Y3|apply Y5)|((with_reducible first|apply e_end|apply d_end);(simp;exact Red.rfl))|((first|((with_reducible apply O1);rfl)|((with_reducible apply P1);rfl)|((with_reducible apply P2);rfl));(simp (disch:=omega) [h00, rd_old _ hid, hrp, hz, hi1, hi2, a3', b1, b2];exact Red.rfl);exact Red.rfl;(focus (first|(simp;done)|omega|(simp;omega))))|((with_reducible first|apply Z8|apply Z9);(simp (disch:=omega) [h00, rd_old _ hid, hrp, hz, hi1, hi2, a3', b1, b2];exact Red.rfl))|((with_reducible apply Z6);(simp (disch:=omega) [h00, rd_old _ hid, hrp, hz, hi1, hi2, a3', b1, b2];exact Red.rfl)))
                    refine q_drop (.inr rfl) (by simp; exact Red.rfl) (by simp) ⟨rfl, false, rfl, by simp [hbad]⟩
                  by_cases b3 : 10000 < y3
                  · have hbad := hno (fun h => by have := (hdec.1 h).2.1; omega)
                    repeat (first|(with_reducible first|apply X1|apply X2|apply X3|apply X8|apply X9|apply Y3|apply Y5)|((with_reducible first|apply e_end|apply d_end);(simp;exact Red.rfl))|((first|((with_reducible apply O1);rfl)|((with_reducible apply P1);rfl)|((with_reducible apply P2);rfl));(simp (disch:=omega) [h00, rd_old _ hid, hrp, hz, hi1, hi2, a3', b1, b2, b3];exact Red.rfl);exact Red.rfl;(focus (first|(simp;done)|omega|(simp;omega))))|((with_reducible first|apply Z8|apply Z9);(simp (disch:=omega) [h00, rd_old _ hid, hrp, hz, hi1, hi2, a3', b1, b2, b3];exact Red.rfl)))
                    refine q_drop (.inr rfl) (by simp; exact Red.rfl) (by simp) ⟨rfl, false, rfl, by simp [hbad]⟩
                  have hok := hstep (hdec.2 ⟨a1, by omega, a3⟩)
                  repeat (first|(with_reducible first|apply X2|apply X5|apply X8|apply Y2)|((with_reducible first|apply e_end|apply d_end);(simp;exact Red.rfl))|((first|((with_reducible apply O1);rfl)|((with_reducible apply P1);rfl)|((with_reducible apply P2);rfl));(simp (disch:=omega) [h00, rd_old _ hid, hrp, hz, hi1, hi2, a3', b1, b2, b3];exact Red.rfl);exact Red.rfl;(focus (first|(simp;done)|omega|(simp;omega))))|((with_reducible apply Z8);(simp (disch:=omega) [h00, rd_old _ hid, hrp, hz, hi1, hi2, a3', b1, b2, b3];exact Red.rfl))|((with_reducible apply W3);(simp (disch:=omega) [h00, rd_old _ hid, hrp, hz, hi1, hi2, a3', b1, b2, b3];exact Red.rfl)))
                  refine q_again ⟨i + 1, hlt, hok⟩ (by dsimp only; omega) (.inr ?_)
                  exact le_take (G := [_]) (by simp; omega) (by simp [Red])
                · have h01 : i = 0 := by omega
                  by_cases b1 : y2 < -10000
                  · have hbad := hno (fun h => by have := (hdec.1 h).2.1; omega)
                    repeat (first|(with_reducible first|apply X1|apply X2|apply X3|apply X8|apply X9|apply Y3|apply Y5)|((with_reducible first|apply e_end|apply d_end);(simp;exact Red.rfl))|((first|((with_reducible apply O1);rfl)|((with_reducible apply P1);rfl)|((with_reducible apply P2);rfl));(simp (disch:=omega) [h00, b1];exact Red.rfl);exact Red.rfl;(focus (first|(simp;done)|omega|(simp;omega))))|((with_reducible first|apply Z8|apply Z9);(simp (disch:=omega) [h00, b1];exact Red.rfl))|((with_reducible first|apply Z5|apply Z6);(simp (disch:=omega) [h00, b1];exact Red.rfl)))
                    refine q_drop (.inr rfl) (by simp; exact Red.rfl) (by simp) ⟨rfl, false, rfl, by simp [hbad]⟩
                  by_cases b2 : y3 < y2
                  · have hbad := hno (fun h => by have := (hdec.1 h).2.1; omega)
                    repeat (first|(with_reducible first|apply X1|apply X2|apply X3|apply X8|apply X9|apply Y3|apply Y5)|((with_reducible first|apply e_end|apply d_end);(simp;exact Red.rfl))|((first|((with_reducible apply O1);rfl)|((with_reducible apply P1);rfl)|((with_reducible apply P2);rfl));(simp (disch:=omega) [h00, b1, b2];exact Red.rfl);exact Red.rfl;(focus (first|(simp;done)|omega|(simp;omega))))|((with_reducible first|apply Z8|apply Z9);(simp (disch:=omega) [h00, b1, b2];exact Red.rfl))|((with_reducible first|apply Z5|apply Z6);(simp (disch:=omega) [h00, b1, b2];exact Red.rfl)))
                    refine q_drop (.inr rfl) (by simp; exact Red.rfl) (by simp) ⟨rfl, false, rfl, by simp [hbad]⟩
                  by_cases b3 : 10000 < y3
                  · have hbad := hno (fun h => by have := (hdec.1 h).2.1; omega)
                    repeat (first|(with_reducible first|apply X1|apply X2|apply X3|apply X8|apply X9|apply Y3|apply Y5)|((with_reducible first|apply e_end|apply d_end);(simp;exact Red.rfl))|((first|((with_reducible apply O1);rfl)|((with_reducible apply P1);rfl)|((with_reducible apply P2);rfl));(simp (disch:=omega) [h00, b1, b2, b3];exact Red.rfl);exact Red.rfl;(focus (first|(simp;done)|omega|(simp;omega))))|((with_reducible first|apply Z8|apply Z9);(simp (disch:=omega) [h00, b1, b2, b3];exact Red.rfl))|((with_reducible apply Z5);(simp (disch:=omega) [h00, b1, b2, b3];exact Red.rfl)))
                    refine q_drop (.inr rfl) (by simp; exact Red.rfl) (by simp) ⟨rfl, false, rfl, by simp [hbad]⟩
                  have hok := hstep (hdec.2 ⟨a1, by omega, a3⟩)
                  repeat (first|(with_reducible first|apply X2|apply X5|apply X8|apply Y2)|((with_reducible first|apply e_end|apply d_end);(simp;exact Red.rfl))|((first|((with_reducible apply O1);rfl)|((with_reducible apply P1);rfl)|((with_reducible apply P2);rfl));(simp (disch:=omega) [h00, b1, b2, b3];exact Red.rfl);exact Red.rfl;(focus (first|(simp;done)|omega|(simp;omega))))|((with_reducible apply Z8);(simp (disch:=omega) [h00, b1, b2, b3];exact Red.rfl))|((with_reducible apply Z5);(simp (disch:=omega) [h00, b1, b2, b3];exact Red.rfl))|((with_reducible apply W3);(simp (disch:=omega) [h00, b1, b2, b3];exact Red.rfl)))
                  refine q_again ⟨i + 1, hlt, hok⟩ (by dsimp only; omega) (.inr ?_)
                  exact le_take (G := [_]) (by simp; omega) (by simp [Red])
          · obtain rfl : i = n := by omega
            have hsyn := okSy_iff.2 hall
            clear hlt hi
            repeat (first|(with_reducible first|apply X1|apply X2|apply X4|apply X6|apply X8|apply Y1|apply Y4|apply Y6)|((with_reducible apply e_end);(simp;exact Red.rfl))|((with_reducible apply O1);rfl;(simp (disch:=omega);exact Red.rfl);exact Red.rfl;(focus (first|(simp;done)|omega|(simp;omega))))|((with_reducible apply W3);(simp (disch:=omega);exact Red.rfl)))
            refine e_loop (ι := { a : Nat // a ≤ i ∧ ∀ a', a' < a → ∀ k, k < a' → okP dr sy a' k })
              (fun a => [(1, .ptr H.length 0), (5, .int .i64 a.1)])
              (fun _ => H ++ [.cells [.int .i64 dr, .slice id off i 3 ex] true]) (fun a => i - a.1) ⟨0, by omega, fun j hj => absurd hj (by omega)⟩ ?_ ?_
            · exact .inl rfl
            · rintro ⟨a, ha, hga⟩
              dsimp only
              by_cases hla : a < i
              · have hla2 : (a : Int) < i := by omega
                have ra := row a hla
                have oa := hsyn a hla
                simp only [Sy.av] at ra
                repeat (first|(with_reducible first|apply X1|apply X2|apply X5|apply X6|apply X8)|((with_reducible apply e_end);(simp;exact Red.rfl))|((with_reducible apply O1);rfl;(simp (disch:=omega) [hla, hla2];exact Red.rfl);exact Red.rfl;(focus (first|(simp;done)|omega|(simp;omega))))|((with_reducible apply Z9);(simp (disch:=omega) [hla, hla2];exact Red.rfl)))
                refine e_loop (ι := { k : Nat // k ≤ a ∧ ∀ k', k' < k → okP dr sy a k' })
                  (fun k => [(1, .ptr H.length 0), (5, .int .i64 a), (6, .int .i64 k.1)])
                  (fun _ => H ++ [.cells [.int .i64 dr, .slice id off i 3 ex] true]) (fun k => a - k.1) ⟨0, by omega, fun j hj => absurd hj (by omega)⟩ ?_ ?_
                · exact .inl rfl
                · rintro ⟨k, hk, hgk⟩
                  dsimp only
                  by_cases hlk : k < a
                  · have hlk2 : (k : Int) < a := by omega
                    have hlk3 : (k : Int) < i := by omega
                    have hlk4 : k < i := by omega
                    have rk := row k (by omega)
                    have ok := hsyn k (by omega)
                    have hlt3 := sy_lt hsyn hla hlk
                    have cd := fun G => c_rDrifts (H ++ G) dr ((sy a).at_ - (sy k).at_) hd (by omega)
                    have hpd : okP dr sy a k ↔ ¬ drF dr ((sy a).at_ - (sy k).at_) < max ((sy a).lo - (sy k).hi) ((sy k).lo - (sy a).hi) := Iff.rfl
                    simp only [Sy.av] at rk
                    have h1 : IntKind.i64.wrap ((sy a).at_ - (sy k).at_) = (sy a).at_ - (sy k).at_ := by rw [wrap64] <;> omega
                    have h2 : IntKind.i64.wrap ((sy a).lo - (sy k).hi) = (sy a).lo - (sy k).hi := by rw [wrap64] <;> omega
                    have h3 : IntKind.i64.wrap ((sy k).lo - (sy a).hi) = (sy k).lo - (sy a).hi := by rw [wrap64] <;> omega
                    repeat (first|(with_reducible first|apply X1|apply X2|apply X5|apply X6|apply X8|apply Y9)|((with_reducible apply e_end);(simp;exact Red.rfl))|((first|((with_reducible apply O1);rfl)|((with_reducible apply P1);rfl)|((with_reducible apply P2);rfl)|((with_reducible apply P3);rfl));(simp (disch:=omega) [hla, hla2, hlk, hlk2, hlk3, hlk4, rd_old _ hid, rk, ra, h1, h2, h3];exact Red.rfl);exact Red.rfl;(focus (first|(simp;done)|omega|(simp;omega))))|((with_reducible apply Z9);(simp (disch:=omega) [hla, hla2, hlk, hlk2, hlk3, hlk4, rd_old _ hid, rk, ra, h1, h2, h3];exact Red.rfl)))
                    (with_reducible apply d_do_); rfl; rfl; (simp (disch := omega) [rd_old _ hid, rk, ra]; exact Red.rfl); exact Red.rfl
                    · (first | (simp; done) | omega | (simp; omega))
                    · (first | (simp; done) | omega | (simp; omega))
                    · (first | (simp; done) | omega | (simp; omega))
                    · simp [recheck, pr, AOp.sem, rd_old _ hid, rk, ra]
                    simp only [St.put]
                    repeat (first|(with_reducible first|apply X1|apply X2|apply X8)|((with_reducible apply d_end);(simp;exact Red.rfl))|((first|((with_reducible apply O1);rfl)|((with_reducible apply P4);rfl));(simp (disch:=omega) [rd_old _ hid, rk, ra, h1, h2, h3];exact Red.rfl);exact Red.rfl;(focus (first|(simp;done)|omega|(simp;omega)))))
                    (with_reducible apply e_call); (simp; exact Red.rfl); exact cd _
                    rintro _ _ ⟨rfl, rfl⟩
                    by_cases p1 : drF dr ((sy a).at_ - (sy k).at_) < (sy k).lo - (sy a).hi
                    · have hbad : ¬ X := fun h => (hpd.1 ((hdef.1 h).2 a hla k hlk)) (by omega)
                      repeat (first|(with_reducible first|apply X1|apply X2|apply X3|apply X8|apply X9|apply Y3|apply Y5)|((with_reducible apply e_end);(simp;exact Red.rfl))|((with_reducible apply O1);rfl;(simp (disch:=omega) [h2, h3, p1];exact Red.rfl);exact Red.rfl;(focus (first|(simp;done)|omega|(simp;omega))))|((with_reducible apply Z9);(simp (disch:=omega) [h2, h3, p1];exact Red.rfl))|((with_reducible apply Z2);(simp (disch:=omega) [h2, h3, p1];exact Red.rfl)))
                      refine q_drop (.inr rfl) (by simp; exact Red.rfl) (by simp) ⟨rfl, false, rfl, by simp [hbad]⟩
                    · by_cases p2 : drF dr ((sy a).at_ - (sy k).at_) < (sy a).lo - (sy k).hi
                      · have hbad : ¬ X := fun h => (hpd.1 ((hdef.1 h).2 a hla k hlk)) (by omega)
                        repeat (first|(with_reducible first|apply X1|apply X2|apply X3|apply X8|apply X9|apply Y3|apply Y5)|((with_reducible apply e_end);(simp;exact Red.rfl))|((with_reducible apply O1);rfl;(simp (disch:=omega) [h2, h3, p1, p2];exact Red.rfl);exact Red.rfl;(focus (first|(simp;done)|omega|(simp;omega))))|((with_reducible first|apply Z7|apply Z9);(simp (disch:=omega) [h2, h3, p1, p2];exact Red.rfl)))
                        refine q_drop (.inr rfl) (by simp; exact Red.rfl) (by simp) ⟨rfl, false, rfl, by simp [hbad]⟩
                      · have hp := hpd.2 (by omega)
                        repeat (first|(with_reducible first|apply X1|apply X2|apply X5|apply X8|apply Y2)|((with_reducible apply e_end);(simp;exact Red.rfl))|((with_reducible apply O1);rfl;(simp (disch:=omega) [h2, h3, p1, p2];exact Red.rfl);exact Red.rfl;(focus (first|(simp;done)|omega|(simp;omega))))|((with_reducible apply Z7);(simp (disch:=omega) [h2, h3, p1, p2];exact Red.rfl))|((with_reducible apply W3);(simp (disch:=omega) [h2, h3, p1, p2];exact Red.rfl)))
                        refine q_again ⟨k + 1, hlk, fun k' hk' => by
                          rcases Nat.lt_or_ge k' k with h | h
                          · exact hgk k' h
                          · obtain rfl : k' = k := by omega
                            exact hp⟩ (by dsimp only; omega) (.inr ?_)
                        exact le_take (G := [_]) (by simp; omega) (by simp [Red])
                  · obtain rfl : k = a := by omega
                    repeat (first|(with_reducible first|apply X1|apply X2|apply X4|apply X8|apply Y1|apply Y2|apply Y4|apply Y6)|((with_reducible apply e_end);(simp;exact Red.rfl))|((with_reducible apply O1);rfl;(simp (disch:=omega);exact Red.rfl);exact Red.rfl;(focus (first|(simp;done)|omega|(simp;omega))))|((with_reducible apply W3);(simp (disch:=omega);exact Red.rfl)))
                    exact q_again ⟨k + 1, hla, fun a' ha' => by
                      rcases Nat.lt_or_ge a' k with h | h
                      · exact hga a' h
                      · obtain rfl : a' = k := by omega
                        exact hgk⟩ (by dsimp only; omega) (.inl (by simp))
              · obtain rfl : a = i := by omega
                repeat (first|(with_reducible first|apply X1|apply X2|apply X3|apply X4|apply X8|apply Y1|apply Y4|apply Y6)|((with_reducible apply e_end);(simp;exact Red.rfl))|((with_reducible apply O1);rfl;(simp (disch:=omega);exact Red.rfl);exact Red.rfl;(focus (first|(simp;done)|omega|(simp;omega))))|((with_reducible apply W3);(simp (disch:=omega);exact Red.rfl)))
                refine q_drop (.inr rfl) (by simp; exact Red.rfl) (by simp) ⟨rfl, true, rfl, by simp; exact hdef.2 ⟨⟨hd, hn5, hsyn⟩, hga⟩⟩
end Go.Proofs
