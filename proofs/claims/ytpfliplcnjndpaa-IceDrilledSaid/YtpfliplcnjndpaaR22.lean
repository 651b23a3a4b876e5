/- Ice: drilled ice; the law's contract. -/
import Derived.Test.YtpfliplcnjndpaaRA
import Derived.Test.YtpfliplcnjndpaaRB
namespace Go.Proofs
open Go.Abs
attribute [local simp] AOp.den AOpd.ev lk cellsOf rd_new rd_new0 rd_zero rd_succ wr_new wr_new0 wr_zero wr_succ splice fillA binA scal sliceCells List.length_append argsT AV.sc scL AObj.sc resV getAll AR.get AOp.slots opdSlots opdsSlots partSlots eqAt at_new0 at_new set_new0 set_new wrap64
set_option linter.unusedSimpArgs false
set_option linter.unusedVariables false
theorem withB_hs {c : Cv} {k : Nat} {lo hi : Int} : (c.withB k lo hi).hs = c.hs := rfl
theorem withB_w1 {c : Cv} {k : Nat} {lo hi : Int} : (c.withB k lo hi).w1 = c.w1 := rfl
theorem withB_w2 {c : Cv} {k : Nat} {lo hi : Int} : (c.withB k lo hi).w2 = c.w2 := rfl
theorem withB_y1 {c : Cv} {k : Nat} {lo hi : Int} : (c.withB k lo hi).y1 = c.y1 := rfl
theorem withB_y2 {c : Cv} {k : Nat} {lo hi : Int} : (c.withB k lo hi).y2 = c.y2 := rfl
theorem withB_rate {c : Cv} {k : Nat} {lo hi : Int} : (c.withB k lo hi).rate = c.rate := rfl
theorem withB_lim {c : Cv} {k : Nat} {lo hi : Int} : (c.withB k lo hi).lim = c.lim := rfl
theorem withB_base {c : Cv} {k : Nat} {lo hi : Int} : (c.withB k lo hi).base = c.base := rfl
set_option maxHeartbeats 4000000 in
theorem c_lawDrilled (H : Heap) (l : List Str) (c : Cv) (p : Plc) (at_ a b : Int) (us : List Int) (uid uoff : Nat) (uex : Bool) (hp : CvAt H c p) (ht : TrAt H l p) (hn : (l.length : Int) ≤ 9223372036854775807) (hn1 : (c.bs.length : Int) ≤ 9223372036854775807) (hn2 : (c.hs.length : Int) ≤ 9223372036854775807)
    (hb : rd H uid uoff us.length = some (us.map (.int .u32))) (ha : 0 ≤ at_ ∧ at_ ≤ 4294967295) (_ : -9223372036854775808 ≤ a ∧ a ≤ 9223372036854775807) (_ : -9223372036854775808 ≤ b ∧ b ≤ 9223372036854775807)
    (hu : ∀ u ∈ us, 0 ≤ u ∧ u ≤ 4294967295) (hun : (us.length : Int) ≤ 9223372036854775807) :
    ACalls Try.prog F.law02_IceDrilled [.agg (c.av p), .int .u32 at_, .agg [.int .i64 a, .int .i64 b], .slice uid uoff us.length 1 uex] H (fun v _ => v = .bool true) := by
  have hp1 := hp.t
  have hp2 := rd_lt hp.b
  have hp3 := rd_lt hp.h
  have huid := rd_lt hb
  have kr := fun G => c_ready2 (H ++ G) l c p (hp.app G) (ht.app G) hn hn1 hn2
  have kd := fun G hc hv h0 h1 => c_iDrill (H ++ G) l c p (hp.app G) (ht.app G) hv hc (at_ % 360001) a b h0 h1
  have kp := fun G hv h0 h1 => c_Place (H ++ G) l (at_ % 360001) p.tid p.toff p.tex (by rw [rd_old _ (rd_lt ht.t)]; exact ht.t) hv h0 h1
  have htn := ht.n
  simp only [Cv.av] at kr kd
  refine acalls_of ok_law02_IceDrilled rfl fun hcl => ?_
  unfold ac_law02_IceDrilled
  simp only [argsT, Nat.zero_add, Nat.reduceAdd]
  simp only [Cv.av]
  repeat (first|(with_reducible first|apply X1|apply X2|apply X8)|((with_reducible apply e_end);(simp;exact Red.rfl))|((with_reducible apply O1);rfl;(simp (disch:=omega);exact Red.rfl);exact Red.rfl;(focus (first|(simp;done)|omega|(simp;omega)))))
  (with_reducible apply e_call); (simp; exact Red.rfl); exact c_aliveI _
  rintro _ _ ⟨rfl, rfl⟩
  repeat (first|(with_reducible first|apply X1|apply X2|apply X5|apply X8)|((with_reducible apply e_end);(simp;exact Red.rfl))|((with_reducible apply O1);rfl;(simp (disch:=omega);exact Red.rfl);exact Red.rfl;(focus (first|(simp;done)|omega|(simp;omega))))|((with_reducible apply W3);(simp (disch:=omega);exact Red.rfl)))
  (with_reducible apply e_call); (simp; exact Red.rfl); exact kr _
  rintro _ _ ⟨rfl, br, rfl, hrd⟩
  cases br with
  | false =>
    repeat (first|(with_reducible first|apply X1|apply X2|apply X3|apply X8|apply X9)|((with_reducible apply e_end);(simp;exact Red.rfl))|((with_reducible apply O1);rfl;(simp (disch:=omega);exact Red.rfl);exact Red.rfl;(focus (first|(simp;done)|omega|(simp;omega))))|((with_reducible apply Z9);(simp (disch:=omega);exact Red.rfl)))
    exact q_stay (.inr rfl) (by simp; exact Red.rfl) rfl
  | true =>
  obtain ⟨hv, hc⟩ := hrd.1 rfl
  have h12 := hv.1
  have hlen := hc.len
  have h8 := hc.hours
  have hm : at_.tmod 360001 = at_ % 360001 := Int.tmod_eq_emod_of_nonneg ha.1
  have g0 : 0 ≤ at_ % 360001 := Int.emod_nonneg _ (by decide)
  have g1 : at_ % 360001 ≤ 360000 := by have := Int.emod_lt_of_pos at_ (show (0 : Int) < 360001 by decide); omega
  repeat (first|(with_reducible first|apply X1|apply X2|apply X5|apply X8)|((with_reducible apply e_end);(simp;exact Red.rfl))|((with_reducible apply O1);rfl;(simp (disch:=omega) [hm];exact Red.rfl);exact Red.rfl;(focus (first|(simp;done)|omega|(simp;omega))))|((with_reducible apply W3);(simp (disch:=omega) [hm];exact Red.rfl)))
  (with_reducible apply e_call); (simp; exact Red.rfl); exact kd _ hc hv g0 g1
  rintro v _ ⟨G, rfl, hD⟩
  obtain ⟨s0, s1, s2, x3, x4, x5, x6, x7, x8, x9, e, hvv, hs0, hs1, hs2, hD2⟩ : ∃ (s0 s1 s2 : AV) (x3 x4 x5 x6 x7 x8 x9 e : Int), v = .tuple [.agg [s0, s1, s2, .int .i64 x3, .int .i64 x4, .int .i64 x5, .int .i64 x6, .int .i64 x7, .int .i64 x8, .int .i64 x9], .int .i64 e] ∧ Abs.scal s0 = true ∧ Abs.scal s1 = true ∧ Abs.scal s2 = true ∧
      (drillE l c (at_ % 360001) a b e ∨ ∃ k p2, e = 0 ∧ k < c.bs.length ∧ plL_ l (at_ % 360001) = [k] ∧ (0 ≤ a ∧ a ≤ b ∧ b ≤ 2000) ∧ max (c.b k).lo a ≤ min (c.b k).hi b ∧ [s0, s1, s2, .int .i64 x3, .int .i64 x4, .int .i64 x5, .int .i64 x6, .int .i64 x7, .int .i64 x8, .int .i64 x9] = (c.withB k (max (c.b k).lo a) (min (c.b k).hi b)).av p2 ∧
        CvAt (H ++ (AObj.cells (c.av p) true :: AObj.cells [.int .i64 a, .int .i64 b] true :: G)) (c.withB k (max (c.b k).lo a) (min (c.b k).hi b)) p2 ∧ TrAt (H ++ (AObj.cells (c.av p) true :: AObj.cells [.int .i64 a, .int .i64 b] true :: G)) l p2) := by
    rcases hD with ⟨e, rfl, hE⟩ | ⟨k, p2, hk, hpl, hfit, hle, rfl, hC, hT⟩
    · exact ⟨_, _, _, _, _, _, _, _, _, _, e, rfl, rfl, rfl, rfl, .inl hE⟩
    · refine ⟨_, _, _, _, _, _, _, _, _, _, 0, rfl, rfl, rfl, rfl, .inr ⟨k, p2, rfl, hk, hpl, hfit, hle, rfl, ?_, ?_⟩⟩
      · simpa [Cv.av] using hC
      · simpa [Cv.av] using hT
  clear hD
  subst hvv
  clear kd
  refine gen_ops (fun t X => ∃ q4 q6 : Nat, t = [(39, .tuple [.agg [s0, s1, s2, .int .i64 x3, .int .i64 x4, .int .i64 x5, .int .i64 x6, .int .i64 x7, .int .i64 x8, .int .i64 x9], .int .i64 e]), (38, .agg [.int .i64 a, .int .i64 b]), (37, .int .i64 (at_ % 360001)), (36, .agg (c.av p)), (3, .slice uid uoff us.length 1 uex), (4, .ptr q4 0), (6, .ptr q6 0), (9, .bool true), (10, .int .i64 (at_ % 360001))] ∧ CvAt X c p ∧ TrAt X l p ∧ rd X q4 0 10 = some (c.av p) ∧ rd X q6 0 2 = some [.int .i64 a, .int .i64 b] ∧ rd X uid uoff us.length = some (us.map (.int .u32)) ∧
      (drillE l c (at_ % 360001) a b e ∨ ∃ k p2, e = 0 ∧ k < c.bs.length ∧ plL_ l (at_ % 360001) = [k] ∧ (0 ≤ a ∧ a ≤ b ∧ b ≤ 2000) ∧ max (c.b k).lo a ≤ min (c.b k).hi b ∧ [s0, s1, s2, .int .i64 x3, .int .i64 x4, .int .i64 x5, .int .i64 x6, .int .i64 x7, .int .i64 x8, .int .i64 x9] = (c.withB k (max (c.b k).lo a) (min (c.b k).hi b)).av p2 ∧ CvAt X (c.withB k (max (c.b k).lo a) (min (c.b k).hi b)) p2 ∧ TrAt X l p2)) ?_ ?_
  · refine ⟨H.length, H.length + 1, by simp only [Cv.av], ?_, ?_, ?_, ?_, ?_, ?_⟩
    · rw [List.append_assoc]; exact hp.app _
    · rw [List.append_assoc]; exact ht.app _
    · simp [Cv.av]
    · simp
    · rw [List.append_assoc, rd_old _ huid]; exact hb
    · simpa [Cv.av] using hD2
  clear hD2 kr kp hp1 hp2 hp3 huid hb hp ht
  rintro _ X ⟨q4, q6, rfl, hp, ht, hc4, hc6, hb, hD⟩
  have hp1 := hp.t
  have hp2 := rd_lt hp.b
  have hp3 := rd_lt hp.h
  have hp4 := rd_lt ht.t
  have l4 := rd_lt hc4
  have l6 := rd_lt hc6
  have huid := rd_lt hb
  have kp := fun G => c_Place (X ++ G) l (at_ % 360001) p.tid p.toff p.tex (by rw [rd_old _ hp4]; exact ht.t) hv g0 g1
  simp only [Cv.av] at hc4
  rw [← htn] at kp
  repeat ((with_reducible apply O1);rfl;(simp (disch:=omega) [rd_old _ l4, hc4];exact Red.rfl);exact Red.rfl;(focus (first|(simp;done)|omega|(simp;omega))))
  (with_reducible apply e_do); rfl; (simp; exact Red.rfl); exact Red.rfl; exact ⟨hs0, hs1, hs2⟩
  have hc4t := rd_sub' hc4 0 1 (by omega)
  have hc4b := rd_sub' hc4 1 1 (by omega)
  have hc6l := rd_sub' hc6 0 1 (by omega)
  have hc6h := rd_sub' hc6 1 1 (by omega)
  simp only [List.drop_succ_cons, List.drop_zero, List.take_succ_cons, List.take_zero, Nat.add_zero, Nat.zero_add] at hc4t hc4b hc6l hc6h
  repeat (first|(with_reducible first|apply X1|apply X2|apply X8)|((with_reducible apply e_end);(simp;exact Red.rfl))|((with_reducible apply O1);rfl;(simp (disch:=omega) [rd_old _ l4, hc4t];exact Red.rfl);exact Red.rfl;(focus (first|(simp;done)|omega|(simp;omega)))))
  (with_reducible apply e_call); (simp; exact Red.rfl); exact kp _
  rintro _ _ ⟨rfl, rfl⟩
  repeat (first|(with_reducible first|apply X1|apply X2|apply X5|apply X8)|((with_reducible apply e_end);(simp;exact Red.rfl))|((with_reducible apply O1);rfl;(simp (disch:=omega) [rd_old _ l4, hc4, hc4t, hc4b, rd_old _ l6, hc6, hc6l, hc6h];exact Red.rfl);exact Red.rfl;(focus (first|(simp;done)|omega|(simp;omega))))|((with_reducible apply W3);(simp (disch:=omega) [rd_old _ l4, hc4, hc4t, hc4b, rd_old _ l6, hc6, hc6l, hc6h];exact Red.rfl)))
  by_cases hfit : 0 ≤ a ∧ a ≤ b ∧ b ≤ 2000
  rotate_left
  · obtain rfl : e = 2 := by
      rcases hD with (h | h | h) | ⟨_, _, _, _, _, h, _⟩
      · exact h.1
      · exact absurd h.2.1 hfit
      · exact absurd h.2.1 hfit
      · exact absurd h hfit
    by_cases q1 : a < 0
    · repeat (first|(with_reducible first|apply X1|apply X2|apply X3|apply X8|apply X9)|((with_reducible apply e_end);(simp;exact Red.rfl))|((with_reducible apply O1);rfl;(simp (disch:=omega) [q1, rd_old _ l4, hc4, hc4t, hc4b, rd_old _ l6, hc6, hc6l, hc6h];exact Red.rfl);exact Red.rfl;(focus (first|(simp;done)|omega|(simp;omega))))|((with_reducible first|apply Z7|apply Z9);(simp (disch:=omega) [q1, rd_old _ l4, hc4, hc4t, hc4b, rd_old _ l6, hc6, hc6l, hc6h];exact Red.rfl))|((with_reducible apply Z2);(simp (disch:=omega) [q1, rd_old _ l4, hc4, hc4t, hc4b, rd_old _ l6, hc6, hc6l, hc6h];exact Red.rfl)))
      exact q_stay (.inr rfl) (by simp; exact Red.rfl) rfl
    by_cases q2 : b < a
    · repeat (first|(with_reducible first|apply X1|apply X2|apply X3|apply X8|apply X9)|((with_reducible apply e_end);(simp;exact Red.rfl))|((with_reducible apply O1);rfl;(simp (disch:=omega) [q1, q2, rd_old _ l4, hc4, hc4t, hc4b, rd_old _ l6, hc6, hc6l, hc6h];exact Red.rfl);exact Red.rfl;(focus (first|(simp;done)|omega|(simp;omega))))|((with_reducible first|apply Z7|apply Z9);(simp (disch:=omega) [q1, q2, rd_old _ l4, hc4, hc4t, hc4b, rd_old _ l6, hc6, hc6l, hc6h];exact Red.rfl))|((with_reducible apply Z2);(simp (disch:=omega) [q1, q2, rd_old _ l4, hc4, hc4t, hc4b, rd_old _ l6, hc6, hc6l, hc6h];exact Red.rfl)))
      exact q_stay (.inr rfl) (by simp; exact Red.rfl) rfl
    have q3 : 2000 < b := by omega
    repeat (first|(with_reducible first|apply X1|apply X2|apply X3|apply X8|apply X9)|((with_reducible apply e_end);(simp;exact Red.rfl))|((with_reducible apply O1);rfl;(simp (disch:=omega) [q1, q2, q3, rd_old _ l4, hc4, hc4t, hc4b, rd_old _ l6, hc6, hc6l, hc6h];exact Red.rfl);exact Red.rfl;(focus (first|(simp;done)|omega|(simp;omega))))|((with_reducible first|apply Z7|apply Z9);(simp (disch:=omega) [q1, q2, q3, rd_old _ l4, hc4, hc4t, hc4b, rd_old _ l6, hc6, hc6l, hc6h];exact Red.rfl)))
    exact q_stay (.inr rfl) (by simp; exact Red.rfl) rfl
  have q1 : ¬ a < 0 := by omega
  have q2 : ¬ b < a := by omega
  have q3 : ¬ 2000 < b := by omega
  repeat (first|(with_reducible first|apply X1|apply X5|apply X8|apply Y9)|((with_reducible apply e_end);(simp;exact Red.rfl))|((first|((with_reducible apply O1);rfl)|((with_reducible apply P1);rfl));(simp (disch:=omega) [q1, q2, q3, rd_old _ l4, hc4, hc4t, hc4b, rd_old _ l6, hc6, hc6l, hc6h];exact Red.rfl);exact Red.rfl;(focus (first|(simp;done)|omega|(simp;omega))))|((with_reducible apply Z7);(simp (disch:=omega) [q1, q2, q3, rd_old _ l4, hc4, hc4t, hc4b, rd_old _ l6, hc6, hc6l, hc6h];exact Red.rfl))|((with_reducible apply W3);(simp (disch:=omega) [q1, q2, q3, rd_old _ l4, hc4, hc4t, hc4b, rd_old _ l6, hc6, hc6l, hc6h];exact Red.rfl)))
  simp only [drillE] at hD
  have hsel := fun k m => mark_sel (l := l) (at_ := at_ % 360001) (m := m) (k := k)
  have hpm : ∀ k, k ∈ plL_ l (at_ % 360001) → k ≤ l.length := fun k hk => by
    simp only [plL_, selF, List.mem_filter, List.mem_range] at hk; omega
  generalize plL_ l (at_ % 360001) = pls at *
  by_cases hl1 : pls.length = 1
  rotate_left
  · obtain rfl : e = 6 := by
      rcases hD with (h | h | h) | ⟨_, _, _, _, h, _⟩
      · exact absurd hfit h.2
      · exact h.1
      · obtain ⟨_, _, k, _, h, _⟩ := h; rw [h] at hl1; exact absurd rfl hl1
      · rw [h] at hl1; exact absurd rfl hl1
    have hl1' : ¬ (pls.length : Int) = 1 := by omega
    repeat (first|(with_reducible first|apply X1|apply X2|apply X3|apply X8|apply X9)|((with_reducible first|apply e_end|apply d_end);(simp;exact Red.rfl))|((first|((with_reducible apply O1);rfl)|((with_reducible apply P1);rfl));(simp (disch:=omega) [hl1, hl1', rd_old _ l4, hc4, hc4t, hc4b, rd_old _ l6, hc6, hc6l, hc6h];exact Red.rfl);exact Red.rfl;(focus (first|(simp;done)|omega|(simp;omega))))|((with_reducible first|apply Z7|apply Z9);(simp (disch:=omega) [hl1, hl1', rd_old _ l4, hc4, hc4t, hc4b, rd_old _ l6, hc6, hc6l, hc6h];exact Red.rfl))|((with_reducible apply Z6);(simp (disch:=omega) [hl1, hl1', rd_old _ l4, hc4, hc4t, hc4b, rd_old _ l6, hc6, hc6l, hc6h];exact Red.rfl)))
    exact q_stay (.inr rfl) (by simp; exact Red.rfl) rfl
  obtain ⟨k, rfl⟩ := List.length_eq_one_iff.1 hl1
  have hk := hpm k (by simp)
  by_cases hkl : k = c.bs.length
  · obtain rfl : e = 6 := by
      rcases hD with (h | h | h) | ⟨_, _, _, _, h, _⟩
      · exact absurd hfit h.2
      · exact h.1
      · obtain ⟨_, _, k, _, h, _⟩ := h; rw [List.cons.injEq] at h; omega
      · rw [List.cons.injEq] at h; omega
    subst hkl
    repeat (first|(with_reducible first|apply X1|apply X2|apply X3|apply X8|apply X9)|((with_reducible first|apply e_end|apply d_end);(simp;exact Red.rfl))|((first|((with_reducible apply O1);rfl)|((with_reducible apply P1);rfl)|((with_reducible apply P2);rfl));(simp (disch:=omega) [avK, rd_old _ l4, hc4, hc4t, hc4b, rd_old _ l6, hc6, hc6l, hc6h];exact Red.rfl);exact Red.rfl;(focus (first|(simp;done)|omega|(simp;omega))))|((with_reducible first|apply Z7|apply Z8|apply Z9);(simp (disch:=omega) [avK, rd_old _ l4, hc4, hc4t, hc4b, rd_old _ l6, hc6, hc6l, hc6h];exact Red.rfl)))
    exact q_stay (.inr rfl) (by simp; exact Red.rfl) rfl
  have hkl2 : k < c.bs.length := by omega
  have hkl3 : ¬ (k : Int) = c.bs.length := by omega
  have cc := fun G i h0 h1 => c_choose2 (X ++ G) us uid uoff uex i (by rw [rd_old _ huid]; exact hb) hu h0 h1 hun
  repeat (first|(with_reducible first|apply X1|apply X2|apply X5|apply X6|apply X8)|((with_reducible first|apply e_end|apply d_end);(simp;exact Red.rfl))|((first|((with_reducible apply O1);rfl)|((with_reducible apply P1);rfl)|((with_reducible apply P2);rfl));(simp (disch:=omega) [avK, hkl, hkl2, hkl3, rd_old _ l4, hc4, hc4t, hc4b, rd_old _ l6, hc6, hc6l, hc6h];exact Red.rfl);exact Red.rfl;(focus (first|(simp;done)|omega|(simp;omega))))|((with_reducible apply Z8);(simp (disch:=omega) [avK, hkl, hkl2, hkl3, rd_old _ l4, hc4, hc4t, hc4b, rd_old _ l6, hc6, hc6l, hc6h];exact Red.rfl))|((with_reducible apply W3);(simp (disch:=omega) [avK, hkl, hkl2, hkl3, rd_old _ l4, hc4, hc4t, hc4b, rd_old _ l6, hc6, hc6l, hc6h];exact Red.rfl)))
  refine e_loop (ι := { x : Nat × Int // x.1 ≤ c.bs.length ∧ mLo l x.1 ≤ x.2 ∧ x.2 ≤ mHi l x.1 ∧ x.2 ≤ at_ % 360001 })
    (fun x => [(3, .slice uid uoff us.length 1 uex), (4, .ptr q4 0), (6, .ptr q6 0), (9, .bool true), (10, .int .i64 (at_ % 360001)), (11, .ptr X.length 0), (12, .int .i64 e), (13, .slice (X.length + 1) 0 1 1 false), (15, .int .i64 x.1.1), (16, .int .i64 x.1.2)])
    (fun x => X ++ [.cells [s0, s1, s2, .int .i64 x3, .int .i64 x4, .int .i64 x5, .int .i64 x6, .int .i64 x7, .int .i64 x8, .int .i64 x9] true, .cells [.int .i64 k] true]) (fun x => c.bs.length - x.1.1) ⟨(0, 0), by simp [mLo, mHi, sumF]; omega⟩ ?_ ?_
  · exact .inl (by simp)
  rintro ⟨⟨i, m⟩, hi, hm1, hm2, hm3⟩
  dsimp only at hi hm1 hm2 hm3 ⊢
  by_cases hlt : i < c.bs.length
  · have hlt2 : (i : Int) < c.bs.length := by omega
    have hil : i < l.length := by omega
    have hst := (hv.2 i hil).2.1.2.2.1
    rw [← strAt_eq hil] at hst
    have hlong : rd X p.tid (p.toff + i * 9 + 1) 2 = some [.int .i64 (strAt l i).lLo, .int .i64 (strAt l i).lHi] := by
      have := rd_row Str.av_length ht.t hil
      rw [← strAt_eq hil] at this
      exact rd_sub' this 1 2 (by omega)
    have hlo1 : mLo l (i + 1) = mLo l i + (strAt l i).lLo := by simp [mLo, sumF]
    have hhi1 : mHi l (i + 1) = mHi l i + (strAt l i).lHi := by simp [mHi, sumF]
    have hcg := chooseF_ge hu (20 + (i : Int))
    have hsf := someF_in (lo := (strAt l i).lLo) (hi := (strAt l i).lHi) (b := chooseF us (20 + (i : Int))) hst.1
    repeat (first|(with_reducible first|apply X1|apply X2|apply X5|apply X6|apply X8|apply Y9)|((with_reducible apply e_end);(simp;exact Red.rfl))|((first|((with_reducible apply O1);rfl)|((with_reducible apply P1);rfl)|((with_reducible apply P2);rfl));(simp (disch:=omega) [hlt, hlt2, rd_old _ l4, hc4, hc4t, hc4b, rd_old _ l6, hc6, hc6l, hc6h, rd_old _ hp4, hlong];exact Red.rfl);exact Red.rfl;(focus (first|(simp;done)|omega|(simp;omega))))|((with_reducible apply Z9);(simp (disch:=omega) [hlt, hlt2, rd_old _ l4, hc4, hc4t, hc4b, rd_old _ l6, hc6, hc6l, hc6h, rd_old _ hp4, hlong];exact Red.rfl)))
    (with_reducible apply d_call); (simp; exact Red.rfl); exact cc _ _ (by omega) (by omega); (focus (first | (simp; done) | (simp; omega)))
    skip
    (with_reducible apply d_call); (simp; exact Red.rfl); exact c_of2 _ _ _ _ (by omega) hst.1 (by omega) (by omega) (by omega); (focus (first | (simp; done) | (simp; omega)))
    generalize someF (strAt l i).lLo (strAt l i).lHi (chooseF us (20 + (i : Int))) = w at *
    have bd := mark_bd hv (show i ≤ l.length by omega)
    have hwr : IntKind.i64.wrap (m + w) = m + w := wrap64 (by omega) (by omega)
    repeat (first|(with_reducible first|apply X1|apply X2|apply X8)|((with_reducible first|apply e_end|apply d_end);(simp;exact Red.rfl))|((first|((with_reducible apply O1);rfl)|((with_reducible apply P1);rfl));(simp (disch:=omega) [hwr];exact Red.rfl);exact Red.rfl;(focus (first|(simp;done)|omega|(simp;omega)))))
    (with_reducible apply e_dec); (simp [hwr]; exact Red.rfl)
    · intro hpm
      have hki : i = k := by
        have := hsel i m hm1 hm3 (.inr ⟨m + w, by omega, hpm⟩) (by omega)
        simpa using this
      subst hki
      clear hsel hpm cc
      have hrow : rd X p.bid (p.boff + i * 3) 2 = some [.int .i64 (c.b i).lo, .int .i64 (c.b i).hi] := by
        have := rd_row (f := Bd.av) Bd.av_length hp.b hlt
        rw [← Cv.b_eq hlt] at this
        exact rd_sub' this 0 2 (by omega)
      have hm1 : (if (c.b i).lo < a then a else (c.b i).lo) = max (c.b i).lo a := by split <;> omega
      have hm2 : (if b < (c.b i).hi then b else (c.b i).hi) = min (c.b i).hi b := by split <;> omega
      repeat (first|(with_reducible first|apply X1|apply X2|apply X4|apply X5|apply X8|apply Y1|apply Y4|apply Y6)|((with_reducible apply q_block_other);decide)|((with_reducible apply e_end);(simp;exact Red.rfl))|((first|((with_reducible apply O1);rfl)|((with_reducible apply O2);rfl));(simp (disch:=omega) [hlt, hlt2, rd_old _ l4, hc4, hc4t, hc4b, rd_old _ l6, hc6, hc6l, hc6h, rd_old _ hp2, hrow, hm1, hm2];exact Red.rfl);exact Red.rfl;(focus (first|(simp;done)|omega|(simp;omega))))|((with_reducible apply W3);(simp (disch:=omega) [hlt, hlt2, rd_old _ l4, hc4, hc4t, hc4b, rd_old _ l6, hc6, hc6l, hc6h, rd_old _ hp2, hrow, hm1, hm2];exact Red.rfl)))
      (with_reducible apply e_call); (simp; exact Red.rfl); exact c_span2 _ _ _
      rintro _ _ ⟨rfl, rfl⟩
      by_cases hw : min (c.b i).hi b < max (c.b i).lo a
      · obtain rfl : e = 8 := by
          rcases hD with (h | h | h) | ⟨j, _, _, _, h, _, h2, _⟩
          · exact absurd hfit h.2
          · exact absurd ⟨i, hlt, rfl⟩ h.2.2
          · exact h.1
          · simp at h; subst h; omega
        repeat (first|(with_reducible first|apply X1|apply X2|apply X3|apply X8|apply X9)|((with_reducible apply e_end);(simp;exact Red.rfl))|((first|((with_reducible apply O1);rfl)|((with_reducible apply O2);rfl));(simp (disch:=omega) [hw];exact Red.rfl);exact Red.rfl;(focus (first|(simp;done)|omega|(simp;omega))))|((with_reducible first|apply Z7|apply Z9);(simp (disch:=omega) [hw];exact Red.rfl)))
        exact q_stay (.inr rfl) (by simp; exact Red.rfl) rfl
      obtain ⟨rfl, p2, hW, hpd, htd⟩ : e = 0 ∧ ∃ p2, [s0, s1, s2, .int .i64 x3, .int .i64 x4, .int .i64 x5, .int .i64 x6, .int .i64 x7, .int .i64 x8, .int .i64 x9] = (c.withB i (max (c.b i).lo a) (min (c.b i).hi b)).av p2 ∧ CvAt X (c.withB i (max (c.b i).lo a) (min (c.b i).hi b)) p2 ∧ TrAt X l p2 := by
        rcases hD with (h | h | h) | ⟨j, p2, h0, _, h, _, h2, h3⟩
        · exact absurd hfit h.2
        · exact absurd ⟨i, hlt, rfl⟩ h.2.2
        · obtain ⟨_, _, j, _, h, h4⟩ := h
          simp at h; subst h; omega
        · simp at h; subst h; exact ⟨h0, p2, h3⟩
      clear hD
      have hbi := hc.bok i hlt
      rw [← Cv.b_eq hlt] at hbi
      simp only [Bd.ok] at hbi
      have hdo : (c.withB i (max (c.b i).lo a) (min (c.b i).hi b)).ok l.length := withB_ok hc (by omega)
      have hsafe := fun L => safe_drill (L := L) hc (lo := max (c.b i).lo a) (hi := min (c.b i).hi b) ⟨by omega, by omega, by omega⟩ hlt
      have hrow2 : rd X p2.bid (p2.boff + i * 3) 2 = some [.int .i64 (max (c.b i).lo a), .int .i64 (min (c.b i).hi b)] := by
        have hlt' : i < (c.withB i (max (c.b i).lo a) (min (c.b i).hi b)).bs.length := by rw [withB_len]; exact hlt
        have := rd_row (f := Bd.av) Bd.av_length hpd.b hlt'
        rw [← Cv.b_eq hlt', withB_b hlt, if_pos rfl] at this
        exact rd_sub' this 0 2 (by omega)
      simp only [Cv.av, withB_len, withB_hs, withB_w1, withB_w2, withB_y1, withB_y2, withB_rate, withB_lim, withB_base, List.cons.injEq, AV.int.injEq, true_and, and_true] at hW
      obtain ⟨rfl, rfl, rfl, rfl, rfl, rfl, rfl, rfl, rfl, rfl⟩ := hW
      have ktw := fun G => c_r2Twin (X ++ G) l _ p2 (hpd.app G) (htd.app G) (by omega) (by rw [withB_len]; omega) (by rw [withB_hs]; omega)
      have hput := put_bd (c := c) (k := i) (lo := max (c.b i).lo a) (hi := min (c.b i).hi b) (lo' := (c.b i).lo) (hi' := (c.b i).hi) hlt
      rw [withB_own hlt] at hput
      have hll := (plain_bd (c.withB i (max (c.b i).lo a) (min (c.b i).hi b))).length c.bs.length
      have le1 : i * 3 + 2 ≤ c.bs.length * 3 := by omega
      simp only [Cv.av, twP, flat_bd, withB_len, withB_hs, withB_w1, withB_w2, withB_y1, withB_y2, withB_rate, withB_lim, withB_base] at ktw
      generalize avR (bdR (c.withB i (max (c.b i).lo a) (min (c.b i).hi b))) c.bs.length = old at *
      have l2 := rd_lt hpd.b
      have k4 := hc4
      simp only [← htn] at ktw
      repeat (first|(with_reducible first|apply X1|apply X2|apply X5|apply X8|apply Y9)|((with_reducible first|apply e_end|apply d_end);(simp;exact Red.rfl))|((first|((with_reducible apply O1);rfl)|((with_reducible apply O2);rfl)|((with_reducible apply P1);rfl)|((with_reducible apply P2);rfl));(simp (disch:=omega) [hw, hlt, hlt2, rd_old _ l4, hc4, hc4t, hc4b, rd_old _ l6, hc6, hc6l, hc6h, rd_old _ l2, hrow2];exact Red.rfl);exact Red.rfl;(focus (first|(simp;done)|omega|(simp;omega))))|((with_reducible apply Z8);(simp (disch:=omega) [hw, hlt, hlt2, rd_old _ l4, hc4, hc4t, hc4b, rd_old _ l6, hc6, hc6l, hc6h, rd_old _ l2, hrow2];exact Red.rfl))|((with_reducible apply W3);(simp (disch:=omega) [hw, hlt, hlt2, rd_old _ l4, hc4, hc4t, hc4b, rd_old _ l6, hc6, hc6l, hc6h, rd_old _ l2, hrow2];exact Red.rfl)))
      (with_reducible apply e_call); (simp; exact Red.rfl); exact ktw _
      rintro _ _ ⟨rfl, rfl⟩
      repeat (first|(with_reducible first|apply X1|apply X2|apply X8)|((with_reducible apply e_end);(simp;exact Red.rfl))|((first|((with_reducible apply O1);rfl)|((with_reducible apply O2);rfl));(simp (disch:=omega) [hlt, hlt2];exact Red.rfl);exact Red.rfl;(focus (first|(simp;done)|omega|(simp;omega)))))
      repeat (first|(with_reducible first|apply X1|apply X2|apply X8)|((with_reducible apply e_end);(simp;exact Red.rfl))|((with_reducible apply O2);rfl;(simp (disch:=omega) [Nat.add_assoc, hll, le1, -splice, hput];exact Red.rfl);exact Red.rfl;(focus (first|(simp;done)|omega|(simp;omega)))))
      clear hput hll le1 ktw
      refine gen_ops (fun t Y => ∃ (q11 q19 : Nat) (pb : Plc), t = [(3, .slice uid uoff us.length 1 uex), (4, .ptr q4 0), (9, .bool true), (11, .ptr q11 0), (19, .ptr q19 0)] ∧ CvAt Y c p ∧ TrAt Y l p ∧ CvAt Y (c.withB i (max (c.b i).lo a) (min (c.b i).hi b)) p2 ∧ TrAt Y l p2 ∧ CvAt Y c pb ∧ TrAt Y l pb ∧
        rd Y q4 0 10 = some (c.av p) ∧ rd Y q11 0 10 = some ((c.withB i (max (c.b i).lo a) (min (c.b i).hi b)).av p2) ∧ rd Y q19 0 10 = some (c.av pb) ∧ rd Y uid uoff us.length = some (us.map (.int .u32))) ?_ ?_
      · refine ⟨X.length, X.length + 7, ⟨X.length + 4, 0, false, p.tn, X.length + 5, 0, false, X.length + 6, 0, false⟩, rfl, hp.app _, ht.app _, hpd.app _, htd.app _, ⟨?_, ?_, ?_⟩, ⟨htn, ?_⟩, ?_, ?_, ?_, ?_⟩
        · simp
        · rw [flat_bd]
          exact rd_full (b := true) (by simp [at_new, Nat.add_assoc]) ((plain_bd c).length _)
        · exact rd_full (b := true) (by simp [at_new, Nat.add_assoc]) (flatB_len Hr.av_length c.hs)
        · exact rd_full (b := true) (by simp [at_new, Nat.add_assoc]) (flatB_len Str.av_length l)
        · rw [rd_old _ l4, hc4]; simp only [Cv.av]
        · simp [Cv.av, withB_len, withB_hs, withB_w1, withB_w2, withB_y1, withB_y2, withB_rate, withB_lim, withB_base]
        · simp [Cv.av, Nat.add_assoc]
        · rw [rd_old _ huid]; exact hb
      clear hpd htd hc4 hc4t hc4b hc6 hc6l hc6h hb hp ht hp1 hp2 hp3 hp4 l4 l6 l2 huid hrow hrow2 k4 hlong kp
      rintro _ Y ⟨q11, q19, pb, rfl, hp, ht, hpd, htd, hpb, htb, hc4, hc11, hc19, hb⟩
      have kdr := fun G => c_drawn2 (Y ++ G) l c p (hp.app G) hc hv us 0 uid uoff uex (by rw [rd_old _ (rd_lt hb)]; exact hb) hu hun (by omega)
      have kdr0 := kdr []
      rw [List.append_nil] at kdr0
      repeat ((with_reducible apply O1);rfl;(simp (disch:=omega) [hc4];exact Red.rfl);exact Red.rfl;(focus (first|(simp;done)|omega|(simp;omega))))
      (with_reducible apply e_call); (simp; exact Red.rfl); exact kdr0
      rintro pl _ ⟨G, rfl, hpl⟩
      have hokp := plnL_okPl hc us 0
      generalize hL : (fun h => plnL c us 0 h c.bs.length) = L at *
      obtain ⟨pid, poff, pex, rfl, hpid, _⟩ := hpl.get
      have ks1 := c_iSafeV (Y ++ G) l c p (hp.app G) (ht.app G) hv hc _ L hpl hokp
      have ks2 := c_iSafeV (Y ++ G) l (c.withB i (max (c.b i).lo a) (min (c.b i).hi b)) p2 (hpd.app G) (htd.app G) hv hdo _ L hpl (withB_okPl hokp)
      have ke := c_r2SameD (Y ++ G) l c pb p (hpb.app G) (hp.app G) (htb.app G) (ht.app G) (by omega) (by omega) (by omega)
      have m4 := rd_lt hc4
      have m11 := rd_lt hc11
      have m19 := rd_lt hc19
      repeat (first|(with_reducible first|apply X1|apply X2|apply X8)|((with_reducible apply e_end);(simp;exact Red.rfl))|((with_reducible apply O1);rfl;(simp (disch:=omega) [rd_old _ m4, hc4];exact Red.rfl);exact Red.rfl;(focus (first|(simp;done)|omega|(simp;omega)))))
      (with_reducible apply e_call); (simp; exact Red.rfl); exact ks1
      rintro _ _ ⟨rfl, rfl⟩
      repeat (first|(with_reducible first|apply X1|apply X2|apply X8)|((with_reducible apply e_end);(simp;exact Red.rfl))|((with_reducible apply O1);rfl;(simp (disch:=omega) [rd_old _ m11, hc11];exact Red.rfl);exact Red.rfl;(focus (first|(simp;done)|omega|(simp;omega)))))
      (with_reducible apply e_call); (simp; exact Red.rfl); exact ks2
      rintro _ _ ⟨rfl, rfl⟩
      repeat (first|(with_reducible first|apply X1|apply X2|apply X8)|((with_reducible apply e_end);(simp;exact Red.rfl))|((with_reducible apply O1);rfl;(simp (disch:=omega) [rd_old _ m4, hc4, rd_old _ m19, hc19];exact Red.rfl);exact Red.rfl;(focus (first|(simp;done)|omega|(simp;omega))))|((with_reducible apply Z7);(simp (disch:=omega) [rd_old _ m4, hc4, rd_old _ m19, hc19];exact Red.rfl)))
      (with_reducible apply e_call); (simp; exact Red.rfl); exact ke
      rintro _ _ ⟨rfl, rfl⟩
      rcases hsafe L with h | h
      · repeat (first|(with_reducible first|apply X3|apply X8)|((with_reducible apply e_end);(simp;exact Red.rfl))|((with_reducible apply O1);rfl;(simp (disch:=omega) [h];exact Red.rfl);exact Red.rfl;(focus (first|(simp;done)|omega|(simp;omega))))|((with_reducible apply Z7);(simp (disch:=omega) [h];exact Red.rfl))|((with_reducible apply Z2);(simp (disch:=omega) [h];exact Red.rfl)))
        exact q_stay (.inr rfl) (by simp; exact Red.rfl) rfl
      · repeat (first|((with_reducible apply O1);rfl;(simp (disch:=omega) [h];exact Red.rfl);exact Red.rfl;(focus (first|(simp;done)|omega|(simp;omega))))|((with_reducible apply Z7);(simp (disch:=omega) [h];exact Red.rfl)))
        by_cases h1 : safeF c L = 1
        · repeat (first|(with_reducible first|apply X3|apply X8)|((with_reducible apply e_end);(simp;exact Red.rfl))|((with_reducible apply O1);rfl;(simp (disch:=omega) [h, h1];exact Red.rfl);exact Red.rfl;(focus (first|(simp;done)|omega|(simp;omega))))|((with_reducible apply Z7);(simp (disch:=omega) [h, h1];exact Red.rfl))|((with_reducible apply Z2);(simp (disch:=omega) [h, h1];exact Red.rfl)))
          exact q_stay (.inr rfl) (by simp; exact Red.rfl) rfl
        · repeat (first|(with_reducible first|apply X3|apply X8)|((with_reducible apply e_end);(simp;exact Red.rfl))|((with_reducible apply O1);rfl;(simp (disch:=omega) [h, h1];exact Red.rfl);exact Red.rfl;(focus (first|(simp;done)|omega|(simp;omega))))|((with_reducible apply Z7);(simp (disch:=omega) [h, h1];exact Red.rfl)))
          exact q_stay (.inr rfl) (by simp; exact Red.rfl) rfl
    · intro hpm
      repeat (first|(with_reducible first|apply X2|apply X5|apply X8|apply Y2)|((with_reducible apply e_end);(simp;exact Red.rfl))|((with_reducible apply O1);rfl;(simp (disch:=omega);exact Red.rfl);exact Red.rfl;(focus (first|(simp;done)|omega|(simp;omega)))))
      refine q_again ⟨(i + 1, m + w), by dsimp only; omega, by dsimp only; omega, by dsimp only; omega, by dsimp only; omega⟩ (by dsimp only; omega) (.inl (by simp [hwr]))
  · obtain rfl : i = c.bs.length := by omega
    have := hsel c.bs.length m hm1 hm3 (.inl hlen) (by omega)
    simp at this
    omega
end Go.Proofs
