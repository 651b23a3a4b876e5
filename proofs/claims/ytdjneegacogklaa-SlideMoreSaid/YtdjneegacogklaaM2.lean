/- SlideMore, the law's contract. -/
import Derived.Test.YtdjneegacogklaaMA
import Derived.Test.YtdjneegacogklaaDD
import Derived.Test.YtdjneegacogklaaRunSlideAlive
namespace Go.Proofs
open Go.Abs
attribute [local simp] AOp.den AOpd.ev lk cellsOf rd_new rd_new0 rd_zero rd_succ wr_new wr_new0 wr_zero wr_succ splice fillA binA scal sliceCells List.length_append argsT AV.sc scL AObj.sc resV getAll AR.get AOp.slots opdSlots opdsSlots partSlots eqAt at_new0 at_new set_new0 set_new wrap64
set_option linter.unusedSimpArgs false
set_option linter.unusedVariables false
set_option maxHeartbeats 8000000 in
theorem c_lawSM (H : Heap) (l : List Str) (s : Sl) (what by_ : Int) (id off : Nat) (ex : Bool) (hs : rd H id off (l.length * 9) = some (l.flatMap Str.av)) (hc : 0 ≤ s.c ∧ s.c ≤ 255) (hwh : 0 ≤ what ∧ what ≤ 255) (hby : 0 ≤ by_ ∧ by_ ≤ 65535) :
    ACalls Try.prog F.law03_SlideMore [.agg [.slice id off l.length 9 ex], .agg s.av, .int .u8 what, .int .u16 by_] H (fun v _ => v = .bool true) := by
  have ca : ∀ H, ACalls Try.prog F.law03_alive [] H (fun v h => v = .bool true ∧ h = H) := Try.true40
  have hid := rd_lt hs
  obtain ⟨w, rfl⟩ := Int.eq_ofNat_of_zero_le hwh.1
  have hw : w ≤ 255 := by have := hwh.2; omega
  have hmn : by_.tmod 400 = by_ % 400 := Int.tmod_eq_emod_of_nonneg hby.1
  obtain ⟨n, hn⟩ : ∃ n, by_ % 400 = n := ⟨_, rfl⟩
  have hnb : 0 ≤ n ∧ n ≤ 399 := by omega
  rw [hn] at hmn
  have kr := fun G => c_sready (H ++ G) l id off ex s (by rw [rd_old _ hid]; exact hs) hc
  have kw := fun G hk => c_wider (H ++ G) s w n hw (by omega) hk
  simp only [sav_eq] at kr kw ⊢
  refine acalls_of ok_law03_SlideMore rfl fun hcl => ?_
  unfold ac_law03_SlideMore
  simp only [argsT, Nat.zero_add, Nat.reduceAdd]
  repeat (first|(with_reducible first|apply X1|apply X2|apply X8)|((with_reducible apply e_end);(simp;exact Red.rfl))|((with_reducible apply O1);rfl;(simp (disch:=omega);exact Red.rfl);exact Red.rfl;(focus (first|(simp;done)|omega|(simp;omega)))))
  (with_reducible apply e_call); (simp; exact Red.rfl); exact ca _
  rintro _ _ ⟨rfl, rfl⟩
  repeat (first|(with_reducible first|apply X1|apply X2|apply X8)|((with_reducible apply e_end);(simp;exact Red.rfl))|((with_reducible apply O1);rfl;(simp (disch:=omega);exact Red.rfl);exact Red.rfl;(focus (first|(simp;done)|omega|(simp;omega)))))
  (with_reducible apply e_call); (simp; exact Red.rfl); exact kr _
  rintro _ _ ⟨rfl, x, rfl, hva⟩
  cases x with
  | false =>
    repeat (first|(with_reducible first|apply X1|apply X2|apply X3|apply X8|apply X9)|((with_reducible apply e_end);(simp;exact Red.rfl))|((with_reducible apply O1);rfl;(simp (disch:=omega);exact Red.rfl);exact Red.rfl;(focus (first|(simp;done)|omega|(simp;omega))))|((with_reducible apply Z9);(simp (disch:=omega);exact Red.rfl))|((with_reducible apply Z2);(simp (disch:=omega);exact Red.rfl)))
    exact q_drop (.inr rfl) (by simp; exact Red.rfl) (by simp) rfl
  | true =>
    obtain ⟨hv, hk⟩ := hva.1 rfl
    have h12 := hv.1
    have kH := fun G => c_sHeads (H ++ G) l id off ex s (by rw [rd_old _ hid]; exact hs) hv hk
    have kw := fun G => kw G hk
    have lx : (wiS2 s (w % 5) (decide (w / 8 % 2 = 0)) n).av = (wiS2 s (w % 5) (decide (w / 8 % 2 = 0)) n).av := rfl
    have hwid := wid_wider s (w % 5) (decide (w / 8 % 2 = 0)) hnb.1
    have hlaxc : 0 ≤ (wiS2 s (w % 5) (decide (w / 8 % 2 = 0)) n).c ∧ (wiS2 s (w % 5) (decide (w / 8 % 2 = 0)) n).c ≤ 255 := by rw [wiS2_c]; exact hc
    generalize wiS2 s (w % 5) (decide (w / 8 % 2 = 0)) n = lax at *
    have m1l : (avR (r2 (hd false s l) (hd true s l)) (l.length + 1)).length = (l.length + 1) * 2 := (plain_r2 _ _).length _
    have m1p : Plain (avR (r2 (hd false s l) (hd true s l)) (l.length + 1)) := (plain_r2 _ _).plain _
    simp only [sav_eq] at kH kw
    repeat (first|(with_reducible first|apply X1|apply X2|apply X5|apply X8)|((with_reducible apply e_end);(simp;exact Red.rfl))|((with_reducible apply O1);rfl;(simp (disch:=omega);exact Red.rfl);exact Red.rfl;(focus (first|(simp;done)|omega|(simp;omega))))|((with_reducible apply Z7);(simp (disch:=omega);exact Red.rfl))|((with_reducible apply W3);(simp (disch:=omega);exact Red.rfl)))
    (with_reducible apply e_call); (simp; exact Red.rfl); exact kH _
    rintro _ _ ⟨rfl, rfl⟩
    repeat (first|(with_reducible first|apply X1|apply X2|apply X5|apply X8|apply Y9)|((with_reducible apply e_end);(simp;exact Red.rfl))|((first|((with_reducible apply O1);rfl)|((with_reducible apply P1);rfl)|((with_reducible apply P2);rfl));(simp (disch:=omega) [hmn];exact Red.rfl);exact Red.rfl;(focus (first|(simp;done)|omega|(simp;omega))))|((with_reducible apply Z7);(simp (disch:=omega) [hmn];exact Red.rfl))|((with_reducible apply W3);(simp (disch:=omega) [hmn];exact Red.rfl)))
    (with_reducible apply d_call); (simp; exact Red.rfl); exact kw _; (focus (first | (simp; done) | (simp; omega)))
    refine d_cut (fun t h => t = [(2, .int .u8 (w : Int)), (4, .ptr H.length 0), (5, .ptr (H.length + 1) 0), (9, .bool true), (10, .slice (H.length + 2) 0 (l.length + 1) 2 true), (12, .int .i64 n), (13, .ptr (H.length + 3) 0), (14, .ptr (H.length + 4) 0)] ∧ h = H ++ [.cells [.slice id off l.length 9 ex] true, .cells [.int .u8 s.c, .int .i64 s.s1, .int .i64 s.s2, .int .i64 s.r1, .int .i64 s.r2, .int .i64 s.d1, .int .i64 s.d2, .int .i64 s.w1, .int .i64 s.w2, .int .i64 s.t1, .int .i64 s.t2] true, .cells (avR (r2 (hd false s l) (hd true s l)) (l.length + 1)) true, .cells [.int .u8 s.c, .int .i64 s.s1, .int .i64 s.s2, .int .i64 s.r1, .int .i64 s.r2, .int .i64 s.d1, .int .i64 s.d2, .int .i64 s.w1, .int .i64 s.w2, .int .i64 s.t1, .int .i64 s.t2] true, .cells [.int .u8 lax.c, .int .i64 lax.s1, .int .i64 lax.s2, .int .i64 lax.r1, .int .i64 lax.r2, .int .i64 lax.d1, .int .i64 lax.d2, .int .i64 lax.w1, .int .i64 lax.w2, .int .i64 lax.t1, .int .i64 lax.t2] true]) ?_ ?_
    · repeat (first|((with_reducible apply d_end);(simp;exact Red.rfl))|((first|((with_reducible apply P3);rfl)|((with_reducible apply P4);rfl));(simp (disch:=omega);exact Red.rfl);exact Red.rfl;(focus (first|(simp;done)|omega|(simp;omega)))))
      exact q_keep ⟨rfl, rfl⟩
    rintro _ _ ⟨rfl, rfl⟩
    have hsp : ∀ H a b, ACalls Try.prog F.law03_span [.int .i64 a, .int .i64 b] H (fun v h' => v = .agg [.int .i64 a, .int .i64 b] ∧ h' = H) := fun H a b => c3_span H a b
    apply X8
    apply X1
    refine c_cut (fun t h => t = [(2, .int .u8 (w : Int)), (4, .ptr H.length 0), (5, .ptr (H.length + 1) 0), (9, .bool true), (10, .slice (H.length + 2) 0 (l.length + 1) 2 true), (12, .int .i64 n), (13, .ptr (H.length + 3) 0), (14, .ptr (H.length + 4) 0)] ∧ h = H ++ [.cells [.slice id off l.length 9 ex] true, .cells [.int .u8 s.c, .int .i64 s.s1, .int .i64 s.s2, .int .i64 s.r1, .int .i64 s.r2, .int .i64 s.d1, .int .i64 s.d2, .int .i64 s.w1, .int .i64 s.w2, .int .i64 s.t1, .int .i64 s.t2] true, .cells (avR (r2 (hd false s l) (hd true s l)) (l.length + 1)) true, .cells [.int .u8 (beS s (w % 4) n).c, .int .i64 (beS s (w % 4) n).s1, .int .i64 (beS s (w % 4) n).s2, .int .i64 (beS s (w % 4) n).r1, .int .i64 (beS s (w % 4) n).r2, .int .i64 (beS s (w % 4) n).d1, .int .i64 (beS s (w % 4) n).d2, .int .i64 (beS s (w % 4) n).w1, .int .i64 (beS s (w % 4) n).w2, .int .i64 (beS s (w % 4) n).t1, .int .i64 (beS s (w % 4) n).t2] true, .cells [.int .u8 lax.c, .int .i64 lax.s1, .int .i64 lax.s2, .int .i64 lax.r1, .int .i64 lax.r2, .int .i64 lax.d1, .int .i64 lax.d2, .int .i64 lax.w1, .int .i64 lax.w2, .int .i64 lax.t1, .int .i64 lax.t2] true]) ?_ ?_
    · have hw4 : (w : Int).tmod 4 = ((w % 4 : Nat) : Int) := by rw [Int.tmod_eq_emod_of_nonneg (by omega)]; omega
      obtain ⟨k0, k1, k2, k3, k4, k5⟩ := hk
      have hm : w % 4 = 0 ∨ w % 4 = 1 ∨ w % 4 = 2 ∨ w % 4 = 3 := by omega
      have t9 : n.tmod 9 = n % 9 := Int.tmod_eq_emod_of_nonneg hnb.1
      have t99 : n.tmod 99 = n % 99 := Int.tmod_eq_emod_of_nonneg hnb.1
      unfold beS
      generalize w % 4 = q at hw4 hm ⊢
      rcases hm with rfl | rfl | rfl | rfl
      · repeat (first|(with_reducible first|apply X1|apply X2|apply X6|apply X8)|((with_reducible apply e_end);(simp;exact Red.rfl))|((with_reducible apply O1);rfl;(simp (disch:=omega) [hw4];exact Red.rfl);exact Red.rfl;(focus (first|(simp;done)|omega|(simp;omega))))|((with_reducible apply Z9);(simp (disch:=omega) [hw4];exact Red.rfl)))
        (with_reducible apply e_call); (simp; exact Red.rfl); exact hsp _ _ _
        rintro _ _ ⟨rfl, rfl⟩
        repeat (first|(with_reducible apply Y2)|((with_reducible apply e_end);(simp;exact Red.rfl))|((first|((with_reducible apply O1);rfl)|((with_reducible apply O2);rfl));(simp (disch:=omega) [t9, t99];exact Red.rfl);exact Red.rfl;(focus (first|(simp;done)|omega|(simp;omega)))))
        exact q_cut ⟨rfl, by simp⟩
      · repeat (first|(with_reducible first|apply X1|apply X2|apply X6|apply X8)|((with_reducible apply e_end);(simp;exact Red.rfl))|((with_reducible apply O1);rfl;(simp (disch:=omega) [hw4];exact Red.rfl);exact Red.rfl;(focus (first|(simp;done)|omega|(simp;omega))))|((with_reducible apply Z9);(simp (disch:=omega) [hw4];exact Red.rfl))|((with_reducible apply W3);(simp (disch:=omega) [hw4];exact Red.rfl)))
        (with_reducible apply e_call); (simp; exact Red.rfl); exact hsp _ _ _
        rintro _ _ ⟨rfl, rfl⟩
        repeat (first|(with_reducible apply Y2)|((with_reducible apply e_end);(simp;exact Red.rfl))|((first|((with_reducible apply O1);rfl)|((with_reducible apply O2);rfl));(simp (disch:=omega) [t9, t99];exact Red.rfl);exact Red.rfl;(focus (first|(simp;done)|omega|(simp;omega)))))
        exact q_cut ⟨rfl, by simp⟩
      · repeat (first|(with_reducible first|apply X1|apply X2|apply X6|apply X8)|((with_reducible apply e_end);(simp;exact Red.rfl))|((with_reducible apply O1);rfl;(simp (disch:=omega) [hw4];exact Red.rfl);exact Red.rfl;(focus (first|(simp;done)|omega|(simp;omega))))|((with_reducible apply Z9);(simp (disch:=omega) [hw4];exact Red.rfl))|((with_reducible apply W3);(simp (disch:=omega) [hw4];exact Red.rfl)))
        (with_reducible apply e_call); (simp; exact Red.rfl); exact hsp _ _ _
        rintro _ _ ⟨rfl, rfl⟩
        repeat (first|(with_reducible apply Y2)|((with_reducible apply e_end);(simp;exact Red.rfl))|((first|((with_reducible apply O1);rfl)|((with_reducible apply O2);rfl));(simp (disch:=omega) [t9, t99];exact Red.rfl);exact Red.rfl;(focus (first|(simp;done)|omega|(simp;omega)))))
        exact q_cut ⟨rfl, by simp⟩
      · repeat (first|(with_reducible first|apply X1|apply X2|apply X6|apply X8)|((with_reducible apply e_end);(simp;exact Red.rfl))|((with_reducible apply O1);rfl;(simp (disch:=omega) [hw4];exact Red.rfl);exact Red.rfl;(focus (first|(simp;done)|omega|(simp;omega))))|((with_reducible apply W3);(simp (disch:=omega) [hw4];exact Red.rfl)))
        (with_reducible apply e_call); (simp; exact Red.rfl); exact hsp _ _ _
        rintro _ _ ⟨rfl, rfl⟩
        repeat (first|(with_reducible apply Y2)|((with_reducible apply e_end);(simp;exact Red.rfl))|((first|((with_reducible apply O1);rfl)|((with_reducible apply O2);rfl));(simp (disch:=omega) [t9, t99];exact Red.rfl);exact Red.rfl;(focus (first|(simp;done)|omega|(simp;omega)))))
        exact q_cut ⟨rfl, by simp⟩
    · rintro _ _ ⟨rfl, rfl⟩
      have hbet := bet_be s (w % 4) hnb.1
      have hcb : 0 ≤ (beS s (w % 4) n).c ∧ (beS s (w % 4) n).c ≤ 255 := by
        unfold beS
        split
        · exact hc
        · split
          · exact hc
          · split <;> exact hc
      have kB := fun G => c_rSled G (beS s (w % 4) n) hcb
      generalize beS s (w % 4) n = bt at *
      simp only [sav_eq] at kB
      apply X8
      apply X1
      refine c_cut (fun t h => (lk t 2 = .int .u8 (w : Int) ∧ lk t 4 = .ptr H.length 0 ∧ lk t 5 = .ptr (H.length + 1) 0 ∧ lk t 9 = .bool true ∧ lk t 10 = .slice (H.length + 2) 0 (l.length + 1) 2 true ∧ lk t 12 = .int .i64 n ∧ lk t 14 = .ptr (H.length + 4) 0) ∧ ∃ G, h = H ++ .cells [.slice id off l.length 9 ex] true :: .cells [.int .u8 s.c, .int .i64 s.s1, .int .i64 s.s2, .int .i64 s.r1, .int .i64 s.r2, .int .i64 s.d1, .int .i64 s.d2, .int .i64 s.w1, .int .i64 s.w2, .int .i64 s.t1, .int .i64 s.t2] true :: .cells (avR (r2 (hd false s l) (hd true s l)) (l.length + 1)) true :: .cells [.int .u8 bt.c, .int .i64 bt.s1, .int .i64 bt.s2, .int .i64 bt.r1, .int .i64 bt.r2, .int .i64 bt.d1, .int .i64 bt.d2, .int .i64 bt.w1, .int .i64 bt.w2, .int .i64 bt.t1, .int .i64 bt.t2] true :: .cells [.int .u8 lax.c, .int .i64 lax.s1, .int .i64 lax.s2, .int .i64 lax.r1, .int .i64 lax.r2, .int .i64 lax.d1, .int .i64 lax.d2, .int .i64 lax.w1, .int .i64 lax.w2, .int .i64 lax.t1, .int .i64 lax.t2] true :: G) ?_ ?_
      · repeat (first|(with_reducible first|apply X1|apply X2)|((with_reducible apply O1);rfl;(simp (disch:=omega);exact Red.rfl);exact Red.rfl;(focus (first|(simp;done)|omega|(simp;omega)))))
        (with_reducible apply e_call); (simp; exact Red.rfl); exact kB _
        rintro _ _ ⟨rfl, x, rfl, hbk⟩
        cases x with
        | false =>
          repeat (first|(with_reducible first|apply X5|apply X8)|((with_reducible apply e_end);(simp;exact Red.rfl))|((with_reducible apply W3);(simp (disch:=omega);exact Red.rfl)))
          exact q_cut ⟨by simp [lk], [], by simp⟩
        | true =>
          have hbk := hbk.1 rfl
          have kHb := fun G => c_sHeads (H ++ G) l id off ex bt (by rw [rd_old _ hid]; exact hs) hv hbk
          have mbl : (avR (r2 (hd false bt l) (hd true bt l)) (l.length + 1)).length = (l.length + 1) * 2 := (plain_r2 _ _).length _
          simp only [sav_eq] at kHb
          repeat (first|(with_reducible first|apply X1|apply X2|apply X8)|((with_reducible apply e_end);(simp;exact Red.rfl))|((with_reducible apply O1);rfl;(simp (disch:=omega);exact Red.rfl);exact Red.rfl;(focus (first|(simp;done)|omega|(simp;omega))))|((with_reducible apply Z9);(simp (disch:=omega);exact Red.rfl)))
          (with_reducible apply e_call); (simp; exact Red.rfl); exact kHb _
          rintro _ _ ⟨rfl, rfl⟩
          repeat (first|(with_reducible first|apply X1|apply X2|apply X5|apply X6|apply X8)|((with_reducible apply e_end);(simp;exact Red.rfl))|((with_reducible apply O1);rfl;(simp (disch:=omega);exact Red.rfl);exact Red.rfl;(focus (first|(simp;done)|omega|(simp;omega))))|((with_reducible apply Z7);(simp (disch:=omega);exact Red.rfl))|((with_reducible apply W3);(simp (disch:=omega);exact Red.rfl)))
          have hcmp := fun {i : Nat} (t : Bool) (hi : i ≤ l.length) => heads_bet hv hk hbk hbet t hi
          have ga := fun {v : Nat} (hv : v < l.length + 1) => (plain_r2 (hd false s l) (hd true s l)).part (n := l.length + 1) (i := v) (c := 0) (m := 1) hv (by omega)
          have gb := fun {v : Nat} (hv : v < l.length + 1) => (plain_r2 (hd false s l) (hd true s l)).part (n := l.length + 1) (i := v) (c := 1) (m := 1) hv (by omega)
          have gc := fun {v : Nat} (hv : v < l.length + 1) => (plain_r2 (hd false bt l) (hd true bt l)).part (n := l.length + 1) (i := v) (c := 0) (m := 1) hv (by omega)
          have gd := fun {v : Nat} (hv : v < l.length + 1) => (plain_r2 (hd false bt l) (hd true bt l)).part (n := l.length + 1) (i := v) (c := 1) (m := 1) hv (by omega)
          simp only [r2, List.drop_zero, List.take_succ_cons, List.take_zero, List.drop_succ_cons, Nat.add_zero] at ga gb gc gd
          refine e_loop (ι := { i : Nat // i ≤ l.length + 1 })
            (fun i => [(2, .int .u8 (w : Int)), (4, .ptr H.length 0), (5, .ptr (H.length + 1) 0), (9, .bool true), (10, .slice (H.length + 2) 0 (l.length + 1) 2 true), (12, .int .i64 n), (14, .ptr (H.length + 4) 0), (15, .slice (H.length + 5) 0 (l.length + 1) 2 true), (148, .int .i64 ((l.length : Int) + 1)), (149, .int .i64 i.1)])
            (fun _ => H ++ [.cells [.slice id off l.length 9 ex] true, .cells [.int .u8 s.c, .int .i64 s.s1, .int .i64 s.s2, .int .i64 s.r1, .int .i64 s.r2, .int .i64 s.d1, .int .i64 s.d2, .int .i64 s.w1, .int .i64 s.w2, .int .i64 s.t1, .int .i64 s.t2] true, .cells (avR (r2 (hd false s l) (hd true s l)) (l.length + 1)) true, .cells [.int .u8 bt.c, .int .i64 bt.s1, .int .i64 bt.s2, .int .i64 bt.r1, .int .i64 bt.r2, .int .i64 bt.d1, .int .i64 bt.d2, .int .i64 bt.w1, .int .i64 bt.w2, .int .i64 bt.t1, .int .i64 bt.t2] true, .cells [.int .u8 lax.c, .int .i64 lax.s1, .int .i64 lax.s2, .int .i64 lax.r1, .int .i64 lax.r2, .int .i64 lax.d1, .int .i64 lax.d2, .int .i64 lax.w1, .int .i64 lax.w2, .int .i64 lax.t1, .int .i64 lax.t2] true, .cells (avR (r2 (hd false bt l) (hd true bt l)) (l.length + 1)) true]) (fun i => l.length + 1 - i.1) ⟨0, by simp⟩ ?_ ?_
          · exact .inl rfl
          · rintro ⟨i, hi⟩
            dsimp only
            by_cases hlt : i < l.length + 1
            · have hlt2 : (i : Int) < (l.length : Int) + 1 := by omega
              have w1 : i * 2 + 1 ≤ (l.length + 1) * 2 := by omega
              have w2 : i * 2 + 2 ≤ (l.length + 1) * 2 := by omega
              have c1 := hcmp (i := i) false (by omega)
              have c2 := hcmp (i := i) true (by omega)
              have d1 : ¬ hd false bt l i < hd false s l i := by omega
              have d2 : ¬ hd true bt l i < hd true s l i := by omega
              repeat (first|(with_reducible first|apply X1|apply X2|apply X5|apply X6|apply X8|apply Y2|apply Y9)|((with_reducible first|apply e_end|apply d_end);(simp;exact Red.rfl))|((first|((with_reducible apply O1);rfl)|((with_reducible apply P1);rfl)|((with_reducible apply P2);rfl));(simp (disch:=omega) [hlt, hlt2, m1l, mbl, ga hlt, gb hlt, gc hlt, gd hlt, w1, w2, d1, d2];exact Red.rfl);exact Red.rfl;(focus (first|(simp;done)|omega|(simp;omega))))|((with_reducible first|apply Z8|apply Z9);(simp (disch:=omega) [hlt, hlt2, m1l, mbl, ga hlt, gb hlt, gc hlt, gd hlt, w1, w2, d1, d2];exact Red.rfl))|((with_reducible apply W3);(simp (disch:=omega) [hlt, hlt2, m1l, mbl, ga hlt, gb hlt, gc hlt, gd hlt, w1, w2, d1, d2];exact Red.rfl)))
              exact q_again ⟨i + 1, by omega⟩ (by dsimp only; omega) (.inl (by simp))
            · have hlt2 : ¬ (i : Int) < (l.length : Int) + 1 := by omega
              repeat (first|(with_reducible first|apply X1|apply X2|apply X4|apply X8|apply Y1|apply Y4|apply Y6)|((with_reducible apply e_end);(simp;exact Red.rfl))|((with_reducible apply O1);rfl;(simp (disch:=omega) [hlt, hlt2];exact Red.rfl);exact Red.rfl;(focus (first|(simp;done)|omega|(simp;omega))))|((with_reducible apply W3);(simp (disch:=omega) [hlt, hlt2];exact Red.rfl)))
              exact q_cut ⟨by simp [lk], [.cells (avR (r2 (hd false bt l) (hd true bt l)) (l.length + 1)) true], by simp⟩
      · rintro t _ ⟨⟨y2, y4, y5, y9, y10, y12, y14⟩, G, rfl⟩
        apply X8
        repeat (first|(with_reducible first|apply X1|apply X2)|((with_reducible apply O1);rfl;(simp (disch:=omega) [y2, y4, y5, y9, y10, y12, y14];exact Red.rfl);exact Red.rfl;(focus (first|(simp;done)|omega|(simp;omega)))))
        refine gen_ops (fun t X => (lk t 177 = .agg [.slice id off l.length 9 ex] ∧ lk t 2 = .int .u8 (w : Int) ∧ lk t 4 = .ptr H.length 0 ∧ lk t 5 = .ptr (H.length + 1) 0 ∧ lk t 9 = .bool true ∧ lk t 10 = .slice (H.length + 2) 0 (l.length + 1) 2 true ∧ lk t 12 = .int .i64 n ∧ lk t 14 = .ptr (H.length + 4) 0) ∧
          rd X id off (l.length * 9) = some (l.flatMap Str.av) ∧ rd X H.length 0 1 = some [.slice id off l.length 9 ex] ∧ rd X (H.length + 1) 0 11 = some [.int .u8 s.c, .int .i64 s.s1, .int .i64 s.s2, .int .i64 s.r1, .int .i64 s.r2, .int .i64 s.d1, .int .i64 s.d2, .int .i64 s.w1, .int .i64 s.w2, .int .i64 s.t1, .int .i64 s.t2] ∧ rd X (H.length + 2) 0 ((l.length + 1) * 2) = some (avR (r2 (hd false s l) (hd true s l)) (l.length + 1)) ∧ rd X (H.length + 4) 0 11 = some [.int .u8 lax.c, .int .i64 lax.s1, .int .i64 lax.s2, .int .i64 lax.r1, .int .i64 lax.r2, .int .i64 lax.d1, .int .i64 lax.d2, .int .i64 lax.w1, .int .i64 lax.w2, .int .i64 lax.t1, .int .i64 lax.t2]) ?_ ?_
        · exact ⟨by simp [lk, y2, y4, y5, y9, y10, y12, y14], by rw [rd_old _ hid]; exact hs, by simp, by simp, rd_full (b := true) (by simp [at_new, Nat.add_assoc]) m1l, by simp⟩
        clear y2 y4 y5 y9 y10 y12 y14 kH kw kr kB
        rintro t X ⟨⟨y177, y2, y4, y5, y9, y10, y12, y14⟩, hX, m4, m5, m10, m14⟩
        have i1 := rd_lt hX
        have j4 := rd_lt m4
        have j5 := rd_lt m5
        have j10 := rd_lt m10
        have j14 := rd_lt m14
        have hk9 : ∃ k : Nat, k < l.length ∧ (w : Int).tmod l.length = k := by
          refine ⟨w % l.length, Nat.mod_lt _ (by omega), ?_⟩
          rw [Int.tmod_eq_emod_of_nonneg (by omega)]; omega
        obtain ⟨k, hkl, hkm⟩ := hk9
        have hlne : ¬ l = [] := by rintro rfl; simp at h12
        have ok1 := str_ok hv hkl
        have px := fun (c : Nat) (h : c + 1 ≤ 9) => (plain_str l).part (n := l.length) (i := k) (c := c) (m := 1) hkl h
        have pl := (plain_str l).length l.length
        have w2 : ((w : Int)).tmod 2 = ((w % 2 : Nat) : Int) := by rw [Int.tmod_eq_emod_of_nonneg (by omega)]; omega
        (with_reducible apply e_call); (simp [y177]; exact Red.rfl); exact c_Twin _ l id off ex hX (by omega)
        rintro _ _ ⟨rfl, rfl⟩
        rw [flat_eq]
        have hkI : (k : Int) < l.length := by omega
        repeat (first|(with_reducible first|apply X1|apply X2|apply X8|apply Y9)|((with_reducible first|apply e_end|apply d_end);(simp;exact Red.rfl))|((first|((with_reducible apply O1);rfl)|((with_reducible apply O2);rfl)|((with_reducible apply P1);rfl)|((with_reducible apply P2);rfl));(simp (disch:=omega) [y2, y4, y5, y9, y10, y12, y14, rd_old _ j4, m4, hkm, hlne, hkl, hkI, w2];exact Red.rfl);exact Red.rfl;(focus (first|(simp;done)|omega|(simp;omega)))))
        have o2 := ok1.2.1
        have o3 := ok1.2.2.1
        have o4 := ok1.2.2.2
        have hL := fun v : Int => putS (strAt l) (n := l.length) (i := k) (c := 2) (xs := [.int .i64 v]) { strAt l k with lHi := v } hkl (by simp) (by simp [Str.av, splice])
        have hL : ∀ v : Int, splice (avR (fun j => (strAt l j).av) l.length) (k * 9 + 1 + 1) [.int .i64 v] = _ := hL
        have hF := fun v : Int => putS (strAt l) (n := l.length) (i := k) (c := 4) (xs := [.int .i64 v]) { strAt l k with fHi := v } hkl (by simp) (by simp [Str.av, splice])
        have hF : ∀ v : Int, splice (avR (fun j => (strAt l j).av) l.length) (k * 9 + 3 + 1) [.int .i64 v] = _ := hF
        have p2 : ((avR (fun j => (strAt l j).av) l.length).drop (k * 9 + 1 + 1)).take 1 = [.int .i64 (strAt l k).lHi] := px 2 (by omega)
        have p4 : ((avR (fun j => (strAt l j).av) l.length).drop (k * 9 + 3 + 1)).take 1 = [.int .i64 (strAt l k).fHi] := px 4 (by omega)
        have q2 : k * 9 + 1 + 1 + 1 ≤ l.length * 9 := by omega
        have q4 : k * 9 + 3 + 1 + 1 ≤ l.length * 9 := by omega
        have q3 : k * 9 + 3 ≤ l.length * 9 := by omega
        have q5 : k * 9 + 5 ≤ l.length * 9 := by omega
        refine c_cut (fun t h => (lk t 4 = .ptr H.length 0 ∧ lk t 5 = .ptr (H.length + 1) 0 ∧ lk t 9 = .bool true ∧ lk t 10 = .slice (H.length + 2) 0 (l.length + 1) 2 true ∧ lk t 14 = .ptr (H.length + 4) 0 ∧ lk t 18 = .ptr (X.length + 1) 0) ∧
          h = X ++ [.cells ((widT l k (w % 2) n).flatMap Str.av) true, .cells [.slice X.length 0 l.length 9 false] true]) ?_ ?_
        · rw [widT, listS_av]
          rcases Nat.mod_two_eq_zero_or_one w with hw2 | hw2
          · have hw3 : (w : Int) % 2 = 0 := by omega
            repeat (first|(with_reducible apply X2)|((with_reducible apply e_end);(simp;exact Red.rfl))|((first|((with_reducible apply O1);rfl)|((with_reducible apply O2);rfl));(simp (disch:=omega) [hw3, y2, y4, y5, y9, y10, y12, y14, hkl, hkI, pl, p2, p4, lenS, -splice, q2, q3, q4, q5, hL, hF];exact Red.rfl);exact Red.rfl;(focus (first|(simp;done)|omega|(simp;omega))))|((with_reducible apply Z9);(simp (disch:=omega) [hw3, y2, y4, y5, y9, y10, y12, y14, hkl, hkI, pl, p2, p4, lenS, -splice, q2, q3, q4, q5, hL, hF];exact Red.rfl)))
            exact q_cut ⟨by simp [lk, y4, y5, y9, y10, y14], by rw [hw2]; rfl⟩
          · have hw3 : ¬ (w : Int) % 2 = 0 := by omega
            repeat (first|(with_reducible apply X2)|((with_reducible apply e_end);(simp;exact Red.rfl))|((first|((with_reducible apply O1);rfl)|((with_reducible apply O2);rfl));(simp (disch:=omega) [hw3, y2, y4, y5, y9, y10, y12, y14, hkl, hkI, pl, p2, p4, lenS, -splice, q2, q3, q4, q5, hL, hF];exact Red.rfl);exact Red.rfl;(focus (first|(simp;done)|omega|(simp;omega))))|((with_reducible apply W3);(simp (disch:=omega) [hw3, y2, y4, y5, y9, y10, y12, y14, hkl, hkI, pl, p2, p4, lenS, -splice, q2, q3, q4, q5, hL, hF];exact Red.rfl)))
            exact q_cut ⟨by simp [lk, y4, y5, y9, y10, y14], by rw [hw2]; rfl⟩
        · clear hL hF p2 p4 px pl ok1
          have hWL := widT_wid l k (w % 2) hnb.1
          generalize widT l k (w % 2) n = L at hWL ⊢
          have hLl := hWL.1
          have lpl := (plain_str L).length L.length
          rintro t _ ⟨⟨z4, z5, z9, z10, z14, z18⟩, rfl⟩
          rw [flat_eq L, hLl]
          repeat (first|(with_reducible first|apply X1|apply X2|apply X6|apply X8)|((with_reducible apply e_end);(simp;exact Red.rfl))|((with_reducible apply O1);rfl;(simp (disch:=omega) [z4, z5, z9, z10, z14, z18, rd_old _ j4, m4];exact Red.rfl);exact Red.rfl;(focus (first|(simp;done)|omega|(simp;omega)))))
          refine e_loop (ι := { p : Nat × Heap // p.1 ≤ 2 ∧ rd p.2 id off (l.length * 9) = some (l.flatMap Str.av) ∧ rd p.2 X.length 0 (l.length * 9) = some (L.flatMap Str.av) ∧ rd p.2 (X.length + 2) 0 2 = some [.slice id off l.length 9 ex, .slice X.length 0 l.length 9 false] ∧ rd p.2 H.length 0 1 = some [.slice id off l.length 9 ex] ∧ rd p.2 (H.length + 1) 0 11 = some [.int .u8 s.c, .int .i64 s.s1, .int .i64 s.s2, .int .i64 s.r1, .int .i64 s.r2, .int .i64 s.d1, .int .i64 s.d2, .int .i64 s.w1, .int .i64 s.w2, .int .i64 s.t1, .int .i64 s.t2] ∧ rd p.2 (H.length + 2) 0 ((l.length + 1) * 2) = some (avR (r2 (hd false s l) (hd true s l)) (l.length + 1)) ∧ rd p.2 (H.length + 4) 0 11 = some [.int .u8 lax.c, .int .i64 lax.s1, .int .i64 lax.s2, .int .i64 lax.r1, .int .i64 lax.r2, .int .i64 lax.d1, .int .i64 lax.d2, .int .i64 lax.w1, .int .i64 lax.w2, .int .i64 lax.t1, .int .i64 lax.t2] })
            (fun p => [(4, .ptr H.length 0), (5, .ptr (H.length + 1) 0), (9, .bool true), (10, .slice (H.length + 2) 0 (l.length + 1) 2 true), (14, .ptr (H.length + 4) 0), (213, .slice (X.length + 2) 0 2 1 true), (214, .int .i64 2), (215, .int .i64 p.1.1)])
            (fun p => p.1.2) (fun p => 2 - p.1.1) ⟨(0, X ++ [.cells (avR (fun j => (strAt L j).av) l.length) true, .cells [.slice X.length 0 l.length 9 false] true, .cells [.slice id off l.length 9 ex, .slice X.length 0 l.length 9 false] true]), ?_⟩ ?_ ?_
          · refine ⟨by simp, by rw [rd_old _ i1]; exact hX, ?_, by simp, by rw [rd_old _ j4]; exact m4, by rw [rd_old _ j5]; exact m5, by rw [rd_old _ j10]; exact m10, by rw [rd_old _ j14]; exact m14⟩
            rw [← hLl, ← flat_eq L]
            exact rd_full (b := true) (by simp) (by rw [flat_eq, lpl])
          · exact .inl (by simp [z4, z5, z9, z10, z14])
          · rintro ⟨⟨i, Y⟩, hi, n0, nL, n2, n4, n5, n10, n14⟩
            dsimp only at hi n0 nL n2 n4 n5 n10 n14 ⊢
            by_cases h2 : i = 2
            · subst h2
              repeat (first|(with_reducible first|apply X1|apply X2|apply X3|apply X4|apply X8|apply Y1|apply Y4|apply Y6)|((with_reducible apply e_end);(simp;exact Red.rfl))|((with_reducible apply O1);rfl;(simp (disch:=omega);exact Red.rfl);exact Red.rfl;(focus (first|(simp;done)|omega|(simp;omega))))|((with_reducible apply W3);(simp (disch:=omega);exact Red.rfl)))
              exact q_stay (.inr rfl) (by simp; exact Red.rfl) rfl
            have h1n : i ≤ 1 := by omega
            have h1m : i + 1 ≤ 2 := by omega
            have h2' : (i : Int) < 2 := by omega
            have h2n : i < 2 := by omega
            have j0 := rd_lt n0
            have jL := rd_lt nL
            have j2 := rd_lt n2
            have j4 := rd_lt n4
            have j5 := rd_lt n5
            have j10 := rd_lt n10
            have j14 := rd_lt n14
            obtain ⟨oid, ooff, oex, L', sd, hO, hRd, hWL', hWs, hcs, s0, s1⟩ : ∃ oid ooff oex L' sd, rd Y (X.length + 2) i 1 = some [.slice oid ooff l.length 9 oex] ∧ rd Y oid ooff (l.length * 9) = some (L'.flatMap Str.av) ∧ WidL l L' ∧ Wid s sd ∧ (0 ≤ sd.c ∧ sd.c ≤ 255) ∧ (i = 0 → lax = sd) ∧ (i = 1 → s = sd) := by
              have hR := rd_sub n2 (j := i) (m := 1) (by omega)
              rw [Nat.zero_add] at hR
              obtain rfl | rfl : i = 0 ∨ i = 1 := by omega
              · exact ⟨id, off, ex, l, lax, by rw [hR]; rfl, n0, WidL.rfl' l, hwid, hlaxc, fun _ => rfl, fun h => absurd h (by decide)⟩
              · exact ⟨X.length, 0, false, L, s, by rw [hR]; rfl, nL, hWL, Wid.rfl' s, hc, fun h => absurd h (by decide), fun _ => rfl⟩
            have mv : ∀ G : Heap, i + 1 ≤ 2 ∧ rd (Y ++ G) id off (l.length * 9) = some (l.flatMap Str.av) ∧ rd (Y ++ G) X.length 0 (l.length * 9) = some (L.flatMap Str.av) ∧ rd (Y ++ G) (X.length + 2) 0 2 = some [.slice id off l.length 9 ex, .slice X.length 0 l.length 9 false] ∧ rd (Y ++ G) H.length 0 1 = some [.slice id off l.length 9 ex] ∧ rd (Y ++ G) (H.length + 1) 0 11 = some [.int .u8 s.c, .int .i64 s.s1, .int .i64 s.s2, .int .i64 s.r1, .int .i64 s.r2, .int .i64 s.d1, .int .i64 s.d2, .int .i64 s.w1, .int .i64 s.w2, .int .i64 s.t1, .int .i64 s.t2] ∧ rd (Y ++ G) (H.length + 2) 0 ((l.length + 1) * 2) = some (avR (r2 (hd false s l) (hd true s l)) (l.length + 1)) ∧ rd (Y ++ G) (H.length + 4) 0 11 = some [.int .u8 lax.c, .int .i64 lax.s1, .int .i64 lax.s2, .int .i64 lax.r1, .int .i64 lax.r2, .int .i64 lax.d1, .int .i64 lax.d2, .int .i64 lax.w1, .int .i64 lax.w2, .int .i64 lax.t1, .int .i64 lax.t2] := fun G => ⟨h1m, by rw [rd_old _ j0]; exact n0, by rw [rd_old _ jL]; exact nL, by rw [rd_old _ j2]; exact n2, by rw [rd_old _ j4]; exact n4, by rw [rd_old _ j5]; exact n5, by rw [rd_old _ j10]; exact n10, by rw [rd_old _ j14]; exact n14⟩
            repeat (first|(with_reducible first|apply X1|apply X2|apply X5|apply X6|apply X8)|((with_reducible apply e_end);(simp;exact Red.rfl))|((first|((with_reducible apply O1);rfl)|((with_reducible apply O2);rfl));(simp (disch:=omega) [h2', h2n, hO, rd_old _ j14, n14];exact Red.rfl);exact Red.rfl;(focus (first|(simp;done)|omega|(simp;omega))))|((with_reducible apply Z9);(simp (disch:=omega) [h2', h2n, hO, rd_old _ j14, n14];exact Red.rfl)))
            refine c_cut (fun t h => (lk t 4 = .ptr H.length 0 ∧ lk t 5 = .ptr (H.length + 1) 0 ∧ lk t 9 = .bool true ∧ lk t 10 = .slice (H.length + 2) 0 (l.length + 1) 2 true ∧ lk t 14 = .ptr (H.length + 4) 0 ∧ lk t 213 = .slice (X.length + 2) 0 2 1 true ∧ lk t 214 = .int .i64 2 ∧ lk t 215 = .int .i64 i ∧ lk t 21 = .ptr Y.length 0 ∧ lk t 22 = .ptr (Y.length + 1) 0) ∧
              h = Y ++ [.cells [.slice oid ooff l.length 9 oex] true, .cells [.int .u8 sd.c, .int .i64 sd.s1, .int .i64 sd.s2, .int .i64 sd.r1, .int .i64 sd.r2, .int .i64 sd.d1, .int .i64 sd.d2, .int .i64 sd.w1, .int .i64 sd.w2, .int .i64 sd.t1, .int .i64 sd.t2] true]) ?_ ?_
            · obtain rfl | rfl : i = 0 ∨ i = 1 := by omega
              · rw [← s0 rfl]
                repeat (first|(with_reducible apply X5)|((with_reducible apply W3);(simp (disch:=omega);exact Red.rfl)))
                exact q_cut ⟨by simp [lk], by simp⟩
              · rw [← s1 rfl]
                repeat (first|(with_reducible apply X2)|((with_reducible apply e_end);(simp;exact Red.rfl))|((first|((with_reducible apply O1);rfl)|((with_reducible apply O2);rfl));(simp (disch:=omega) [rd_old _ j5, n5];exact Red.rfl);exact Red.rfl;(focus (first|(simp;done)|omega|(simp;omega))))|((with_reducible apply Z9);(simp (disch:=omega) [rd_old _ j5, n5];exact Red.rfl)))
                exact q_cut ⟨by simp [lk], by simp⟩
            · rintro t _ ⟨⟨z4, z5, z9, z10, z14, z213, z214, z215, z21, z22⟩, rfl⟩
              have kr := fun G => c_sready (Y ++ G) L' oid ooff oex sd (by rw [rd_old _ (rd_lt hRd), hWL'.1]; exact hRd) hcs
              rw [hWL'.1] at kr
              simp only [sav_eq] at kr
              repeat (first|(with_reducible first|apply X1|apply X2|apply X8)|((with_reducible apply O1);rfl;(simp (disch:=omega) [z4, z5, z9, z10, z14, z213, z214, z215, z21, z22];exact Red.rfl);exact Red.rfl;(focus (first|(simp;done)|omega|(simp;omega)))))
              (with_reducible apply e_call); (simp; exact Red.rfl); exact kr _
              rintro _ _ ⟨rfl, x, rfl, hvb⟩
              cases x with
              | false =>
                repeat (first|(with_reducible first|apply X2|apply X4|apply X8|apply Y1|apply Y4)|((with_reducible apply e_end);(simp;exact Red.rfl))|((with_reducible apply O1);rfl;(simp (disch:=omega) [z4, z5, z9, z10, z14, z213, z214, z215, z21, z22];exact Red.rfl);exact Red.rfl;(focus (first|(simp;done)|omega|(simp;omega))))|((with_reducible apply Z9);(simp (disch:=omega) [z4, z5, z9, z10, z14, z213, z214, z215, z21, z22];exact Red.rfl)))
                exact q_again ⟨(i + 1, Y ++ [.cells [.slice oid ooff l.length 9 oex] true, .cells [.int .u8 sd.c, .int .i64 sd.s1, .int .i64 sd.s2, .int .i64 sd.r1, .int .i64 sd.r2, .int .i64 sd.d1, .int .i64 sd.d2, .int .i64 sd.w1, .int .i64 sd.w2, .int .i64 sd.t1, .int .i64 sd.t2] true]), mv _⟩ (by dsimp only; omega) (.inl (by simp [z4, z5, z9, z10, z14, z213, z214, z215, z21, z22]))
              | true =>
                obtain ⟨hv', hk'⟩ := hvb.1 rfl
                have hhd := fun {i : Nat} (hi : i ≤ l.length) => heads_wid hv hv' hk hk' hWs hWL' hi
                have hht := fun {i : Nat} (hi : i < l.length) => height_wid hv hv' hk hk' hWs hWL' hi
                have kH := fun G => c_sHeads (Y ++ G) L' oid ooff oex sd (by rw [rd_old _ (rd_lt hRd), hWL'.1]; exact hRd) hv' hk'
                rw [hWL'.1] at kH
                simp only [sav_eq] at kH
                repeat (first|(with_reducible first|apply X1|apply X2|apply X5|apply X8)|((with_reducible apply e_end);(simp;exact Red.rfl))|((with_reducible apply O1);rfl;(simp (disch:=omega) [z4, z5, z9, z10, z14, z213, z214, z215, z21, z22];exact Red.rfl);exact Red.rfl;(focus (first|(simp;done)|omega|(simp;omega))))|((with_reducible apply W3);(simp (disch:=omega) [z4, z5, z9, z10, z14, z213, z214, z215, z21, z22];exact Red.rfl)))
                (with_reducible apply e_call); (simp; exact Red.rfl); exact kH _
                rintro _ _ ⟨rfl, rfl⟩
                repeat (first|(with_reducible first|apply X1|apply X2|apply X5|apply X6|apply X8)|((with_reducible apply e_end);(simp;exact Red.rfl))|((with_reducible apply O1);rfl;(simp (disch:=omega) [z4, z5, z9, z10, z14, z213, z214, z215, z21, z22];exact Red.rfl);exact Red.rfl;(focus (first|(simp;done)|omega|(simp;omega))))|((with_reducible apply Z7);(simp (disch:=omega) [z4, z5, z9, z10, z14, z213, z214, z215, z21, z22];exact Red.rfl))|((with_reducible apply W3);(simp (disch:=omega) [z4, z5, z9, z10, z14, z213, z214, z215, z21, z22];exact Red.rfl)))
                have ga := fun {v : Nat} (hv : v < l.length + 1) => (plain_r2 (hd false s l) (hd true s l)).part (n := l.length + 1) (i := v) (c := 0) (m := 1) hv (by omega)
                have gb := fun {v : Nat} (hv : v < l.length + 1) => (plain_r2 (hd false s l) (hd true s l)).part (n := l.length + 1) (i := v) (c := 1) (m := 1) hv (by omega)
                have gc := fun {v : Nat} (hv : v < l.length + 1) => (plain_r2 (hd false sd L') (hd true sd L')).part (n := l.length + 1) (i := v) (c := 0) (m := 1) hv (by omega)
                have gd := fun {v : Nat} (hv : v < l.length + 1) => (plain_r2 (hd false sd L') (hd true sd L')).part (n := l.length + 1) (i := v) (c := 1) (m := 1) hv (by omega)
                simp only [r2, List.drop_zero, List.take_succ_cons, List.take_zero, List.drop_succ_cons, Nat.add_zero] at ga gb gc gd
                have mdl : (avR (r2 (hd false sd L') (hd true sd L')) (l.length + 1)).length = (l.length + 1) * 2 := (plain_r2 _ _).length _
                refine e_loop (ι := { k : Nat // k ≤ l.length + 1 })
                  (fun k => [(4, .ptr H.length 0), (5, .ptr (H.length + 1) 0), (9, .bool true), (10, .slice (H.length + 2) 0 (l.length + 1) 2 true), (14, .ptr (H.length + 4) 0), (21, .ptr Y.length 0), (22, .ptr (Y.length + 1) 0), (23, .slice (Y.length + 2) 0 (l.length + 1) 2 true), (213, .slice (X.length + 2) 0 2 1 true), (214, .int .i64 2), (215, .int .i64 i), (244, .int .i64 ((l.length : Int) + 1)), (245, .int .i64 k.1)])
                  (fun _ => Y ++ [.cells [.slice oid ooff l.length 9 oex] true, .cells [.int .u8 sd.c, .int .i64 sd.s1, .int .i64 sd.s2, .int .i64 sd.r1, .int .i64 sd.r2, .int .i64 sd.d1, .int .i64 sd.d2, .int .i64 sd.w1, .int .i64 sd.w2, .int .i64 sd.t1, .int .i64 sd.t2] true, .cells (avR (r2 (hd false sd L') (hd true sd L')) (l.length + 1)) true]) (fun k => l.length + 1 - k.1) ⟨0, by simp⟩ ?_ ?_
                · exact .inl (by simp [z4, z5, z9, z10, z14, z213, z214, z215, z21, z22])
                · rintro ⟨v, hvl⟩
                  dsimp only
                  by_cases hlt : v < l.length + 1
                  · have hlt2 : (v : Int) < (l.length : Int) + 1 := by omega
                    have w1 : v * 2 + 1 ≤ (l.length + 1) * 2 := by omega
                    have w2 : v * 2 + 2 ≤ (l.length + 1) * 2 := by omega
                    have hh := hhd (i := v) (by omega)
                    have d1 : ¬ hd false s l v < hd false sd L' v := by omega
                    have d2 : ¬ hd true sd L' v < hd true s l v := by omega
                    have ra := rd_sub n10 (j := v * 2) (m := 1) (by omega)
                    have rb := rd_sub n10 (j := v * 2 + 1) (m := 1) (by omega)
                    rw [Nat.zero_add, ga hlt] at ra
                    rw [Nat.zero_add, gb hlt] at rb
                    repeat (first|(with_reducible first|apply X1|apply X2|apply X5|apply X6|apply X8|apply Y2|apply Y9)|((with_reducible first|apply e_end|apply d_end);(simp;exact Red.rfl))|((first|((with_reducible apply O1);rfl)|((with_reducible apply P1);rfl)|((with_reducible apply P2);rfl));(simp (disch:=omega) [hlt, hlt2, mdl, rd_old _ j10, ra, rb, gc hlt, gd hlt, w1, w2, d1, d2];exact Red.rfl);exact Red.rfl;(focus (first|(simp;done)|omega|(simp;omega))))|((with_reducible first|apply Z8|apply Z9);(simp (disch:=omega) [hlt, hlt2, mdl, rd_old _ j10, ra, rb, gc hlt, gd hlt, w1, w2, d1, d2];exact Red.rfl))|((with_reducible apply W3);(simp (disch:=omega) [hlt, hlt2, mdl, rd_old _ j10, ra, rb, gc hlt, gd hlt, w1, w2, d1, d2];exact Red.rfl)))
                    exact q_again ⟨v + 1, by omega⟩ (by dsimp only; omega) (.inl (by simp))
                  · have hlt2 : ¬ (v : Int) < (l.length : Int) + 1 := by omega
                    clear gc gd ga gb mdl kH kr
                    repeat (first|(with_reducible first|apply X1|apply X2|apply X4|apply X6|apply X8|apply Y1|apply Y4|apply Y6)|((with_reducible apply e_end);(simp;exact Red.rfl))|((with_reducible apply O1);rfl;(simp (disch:=omega) [hlt, hlt2, rd_old _ j4, n4];exact Red.rfl);exact Red.rfl;(focus (first|(simp;done)|omega|(simp;omega))))|((with_reducible apply W3);(simp (disch:=omega) [hlt, hlt2, rd_old _ j4, n4];exact Red.rfl)))
                    clear z4 z5 z9 z10 z14 z213 z214 z215 z21 z22 n0 nL n2 n4 n5 n10 n14 j0 jL j2 j4 j5 j10 j14
                    refine e_loop (ι := { p : Nat × Heap // p.1 ≤ l.length ∧ (rd p.2 id off (l.length * 9) = some (l.flatMap Str.av) ∧ rd p.2 X.length 0 (l.length * 9) = some (L.flatMap Str.av) ∧ rd p.2 (X.length + 2) 0 2 = some [.slice id off l.length 9 ex, .slice X.length 0 l.length 9 false] ∧ rd p.2 H.length 0 1 = some [.slice id off l.length 9 ex] ∧ rd p.2 (H.length + 1) 0 11 = some [.int .u8 s.c, .int .i64 s.s1, .int .i64 s.s2, .int .i64 s.r1, .int .i64 s.r2, .int .i64 s.d1, .int .i64 s.d2, .int .i64 s.w1, .int .i64 s.w2, .int .i64 s.t1, .int .i64 s.t2] ∧ rd p.2 (H.length + 2) 0 ((l.length + 1) * 2) = some (avR (r2 (hd false s l) (hd true s l)) (l.length + 1)) ∧ rd p.2 (H.length + 4) 0 11 = some [.int .u8 lax.c, .int .i64 lax.s1, .int .i64 lax.s2, .int .i64 lax.r1, .int .i64 lax.r2, .int .i64 lax.d1, .int .i64 lax.d2, .int .i64 lax.w1, .int .i64 lax.w2, .int .i64 lax.t1, .int .i64 lax.t2]) ∧ rd p.2 oid ooff (l.length * 9) = some (L'.flatMap Str.av) ∧ rd p.2 Y.length 0 1 = some [.slice oid ooff l.length 9 oex] ∧ rd p.2 (Y.length + 1) 0 11 = some [.int .u8 sd.c, .int .i64 sd.s1, .int .i64 sd.s2, .int .i64 sd.r1, .int .i64 sd.r2, .int .i64 sd.d1, .int .i64 sd.d2, .int .i64 sd.w1, .int .i64 sd.w2, .int .i64 sd.t1, .int .i64 sd.t2] })
                      (fun p => [(4, .ptr H.length 0), (5, .ptr (H.length + 1) 0), (9, .bool true), (10, .slice (H.length + 2) 0 (l.length + 1) 2 true), (14, .ptr (H.length + 4) 0), (21, .ptr Y.length 0), (22, .ptr (Y.length + 1) 0), (213, .slice (X.length + 2) 0 2 1 true), (214, .int .i64 2), (215, .int .i64 i), (274, .slice id off l.length 9 ex), (275, .int .i64 l.length), (276, .int .i64 p.1.1)])
                      (fun p => p.1.2) (fun p => l.length - p.1.1) ⟨(0, Y ++ [.cells [.slice oid ooff l.length 9 oex] true, .cells [.int .u8 sd.c, .int .i64 sd.s1, .int .i64 sd.s2, .int .i64 sd.r1, .int .i64 sd.r2, .int .i64 sd.d1, .int .i64 sd.d2, .int .i64 sd.w1, .int .i64 sd.w2, .int .i64 sd.t1, .int .i64 sd.t2] true, .cells (avR (r2 (hd false sd L') (hd true sd L')) (l.length + 1)) true]), by simp, (mv _).2, by rw [rd_old _ (rd_lt hRd)]; exact hRd, by simp, by simp⟩ ?_ ?_
                    · exact .inl rfl
                    · clear mv hRd
                      rintro ⟨⟨v, Z⟩, hvl, ⟨n0, nL, n2, n4, n5, n10, n14⟩, hRd, m21, m22⟩
                      dsimp only at hvl n0 nL n2 n4 n5 n10 n14 hRd m21 m22 ⊢
                      by_cases hlt : v < l.length
                      · have hlt2 : (v : Int) < l.length := by omega
                        have j0 := rd_lt n0
                        have j4 := rd_lt n4
                        have j5 := rd_lt n5
                        have j21 := rd_lt m21
                        have j22 := rd_lt m22
                        have mv : ∀ G : Heap, v + 1 ≤ l.length ∧ (rd (Z ++ G) id off (l.length * 9) = some (l.flatMap Str.av) ∧ rd (Z ++ G) X.length 0 (l.length * 9) = some (L.flatMap Str.av) ∧ rd (Z ++ G) (X.length + 2) 0 2 = some [.slice id off l.length 9 ex, .slice X.length 0 l.length 9 false] ∧ rd (Z ++ G) H.length 0 1 = some [.slice id off l.length 9 ex] ∧ rd (Z ++ G) (H.length + 1) 0 11 = some [.int .u8 s.c, .int .i64 s.s1, .int .i64 s.s2, .int .i64 s.r1, .int .i64 s.r2, .int .i64 s.d1, .int .i64 s.d2, .int .i64 s.w1, .int .i64 s.w2, .int .i64 s.t1, .int .i64 s.t2] ∧ rd (Z ++ G) (H.length + 2) 0 ((l.length + 1) * 2) = some (avR (r2 (hd false s l) (hd true s l)) (l.length + 1)) ∧ rd (Z ++ G) (H.length + 4) 0 11 = some [.int .u8 lax.c, .int .i64 lax.s1, .int .i64 lax.s2, .int .i64 lax.r1, .int .i64 lax.r2, .int .i64 lax.d1, .int .i64 lax.d2, .int .i64 lax.w1, .int .i64 lax.w2, .int .i64 lax.t1, .int .i64 lax.t2]) ∧ rd (Z ++ G) oid ooff (l.length * 9) = some (L'.flatMap Str.av) ∧ rd (Z ++ G) Y.length 0 1 = some [.slice oid ooff l.length 9 oex] ∧ rd (Z ++ G) (Y.length + 1) 0 11 = some [.int .u8 sd.c, .int .i64 sd.s1, .int .i64 sd.s2, .int .i64 sd.r1, .int .i64 sd.r2, .int .i64 sd.d1, .int .i64 sd.d2, .int .i64 sd.w1, .int .i64 sd.w2, .int .i64 sd.t1, .int .i64 sd.t2] := fun G => ⟨hlt, ⟨by rw [rd_old _ j0]; exact n0, by rw [rd_old _ (rd_lt nL)]; exact nL, by rw [rd_old _ (rd_lt n2)]; exact n2, by rw [rd_old _ j4]; exact n4, by rw [rd_old _ j5]; exact n5, by rw [rd_old _ (rd_lt n10)]; exact n10, by rw [rd_old _ (rd_lt n14)]; exact n14⟩, by rw [rd_old _ (rd_lt hRd)]; exact hRd, by rw [rd_old _ j21]; exact m21, by rw [rd_old _ j22]; exact m22⟩
                        have hrow := rd_row Str.av_length n0 hlt
                        rw [← strAt_eq hlt] at hrow
                        simp only [Str.av] at hrow
                        have hsd := (hWL'.2 v hlt).1
                        have hht := hht (i := v) hlt
                        by_cases hz : (strAt l v).side = 0
                        · repeat (first|(with_reducible first|apply X1|apply X2|apply X4|apply X5|apply X6|apply X8|apply Y1|apply Y4)|((with_reducible apply e_end);(simp;exact Red.rfl))|((first|((with_reducible apply O1);rfl)|((with_reducible apply O2);rfl));(simp (disch:=omega) [hlt, hlt2, hrow, hz];exact Red.rfl);exact Red.rfl;(focus (first|(simp;done)|omega|(simp;omega))))|((with_reducible apply Z9);(simp (disch:=omega) [hlt, hlt2, hrow, hz];exact Red.rfl)))
                          exact q_again ⟨(v + 1, Z ++ [.cells [.int .i64 (strAt l v).id, .int .i64 (strAt l v).lLo, .int .i64 (strAt l v).lHi, .int .i64 (strAt l v).fLo, .int .i64 (strAt l v).fHi, .int .i64 (strAt l v).rLo, .int .i64 (strAt l v).rHi, .int .u8 0, .int .i64 (strAt l v).wall] true]), mv _⟩ (by dsimp only; omega) (.inl (by simp))
                        · have k1 := fun G => c_Height (Z ++ G) l id off ex s (by rw [rd_old _ j0]; exact n0) hv hk v hlt hz
                          have k2 := fun G => c_Height (Z ++ G) L' oid ooff oex sd (by rw [rd_old _ (rd_lt hRd), hWL'.1]; exact hRd) hv' hk' v (by rw [hWL'.1]; exact hlt) (by rw [hsd]; exact hz)
                          rw [hWL'.1] at k2
                          simp only [sav_eq] at k1 k2
                          have hht := hht hz
                          repeat (first|(with_reducible first|apply X1|apply X2|apply X5|apply X6|apply X8)|((with_reducible apply e_end);(simp;exact Red.rfl))|((first|((with_reducible apply O1);rfl)|((with_reducible apply O2);rfl));(simp (disch:=omega) [hlt, hlt2, hrow, hz, rd_old _ j4, n4, rd_old _ j5, n5];exact Red.rfl);exact Red.rfl;(focus (first|(simp;done)|omega|(simp;omega))))|((with_reducible apply Z9);(simp (disch:=omega) [hlt, hlt2, hrow, hz, rd_old _ j4, n4, rd_old _ j5, n5];exact Red.rfl))|((with_reducible apply W3);(simp (disch:=omega) [hlt, hlt2, hrow, hz, rd_old _ j4, n4, rd_old _ j5, n5];exact Red.rfl)))
                          (with_reducible apply e_call); (simp; exact Red.rfl); exact k1 _
                          rintro _ _ ⟨rfl, rfl⟩
                          have g1 : ¬ htF (wiF (hd false s l) v) (strAt l v).rHi s.t1 < htF (wiF (hd false sd L') v) (strAt L' v).rHi sd.t1 := by omega
                          have g2 : ¬ htF (wiF (hd true sd L') v) (strAt L' v).rLo sd.t2 < htF (wiF (hd true s l) v) (strAt l v).rLo s.t2 := by omega
                          repeat (first|(with_reducible first|apply X1|apply X2|apply X8)|((with_reducible apply e_end);(simp;exact Red.rfl))|((first|((with_reducible apply O1);rfl)|((with_reducible apply O2);rfl));(simp (disch:=omega) [rd_old _ j21, m21, rd_old _ j22, m22];exact Red.rfl);exact Red.rfl;(focus (first|(simp;done)|omega|(simp;omega)))))
                          (with_reducible apply e_call); (simp; exact Red.rfl); exact k2 _
                          rintro _ _ ⟨rfl, rfl⟩
                          repeat (first|(with_reducible first|apply X1|apply X2|apply X5|apply X8|apply Y2)|((with_reducible apply e_end);(simp;exact Red.rfl))|((first|((with_reducible apply O1);rfl)|((with_reducible apply O2);rfl));(simp (disch:=omega) [g1, g2];exact Red.rfl);exact Red.rfl;(focus (first|(simp;done)|omega|(simp;omega))))|((with_reducible apply Z7);(simp (disch:=omega) [g1, g2];exact Red.rfl))|((with_reducible apply W3);(simp (disch:=omega) [g1, g2];exact Red.rfl)))
                          exact q_again ⟨(v + 1, Z ++ [.cells [.int .i64 (strAt l v).id, .int .i64 (strAt l v).lLo, .int .i64 (strAt l v).lHi, .int .i64 (strAt l v).fLo, .int .i64 (strAt l v).fHi, .int .i64 (strAt l v).rLo, .int .i64 (strAt l v).rHi, .int .u8 (strAt l v).side, .int .i64 (strAt l v).wall] true, .cells [.int .i64 (htF (wiF (hd false s l) v) (strAt l v).rHi s.t1), .int .i64 (htF (wiF (hd true s l) v) (strAt l v).rLo s.t2)] true, .cells [.int .i64 (htF (wiF (hd false sd L') v) (strAt L' v).rHi sd.t1), .int .i64 (htF (wiF (hd true sd L') v) (strAt L' v).rLo sd.t2)] true]), mv _⟩ (by dsimp only; omega) (.inl (by simp))
                      · have hlt2 : ¬ (v : Int) < l.length := by omega
                        repeat (first|(with_reducible first|apply X1|apply X2|apply X4|apply X8|apply Y1|apply Y2|apply Y4|apply Y6)|((with_reducible apply e_end);(simp;exact Red.rfl))|((with_reducible apply O1);rfl;(simp (disch:=omega) [hlt, hlt2];exact Red.rfl);exact Red.rfl;(focus (first|(simp;done)|omega|(simp;omega))))|((with_reducible apply W3);(simp (disch:=omega) [hlt, hlt2];exact Red.rfl)))
                        exact q_again ⟨(i + 1, Z), h1m, n0, nL, n2, n4, n5, n10, n14⟩ (by dsimp only; omega) (.inl (by simp))
end Go.Proofs
