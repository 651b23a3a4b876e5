/- Several texts as one. -/
import Derived.Test.YtdjneegacogklaaSB
import Derived.Test.YtdjneegacogklaaXA
/- The reference's speeds. -/
namespace Go.Proofs
open Go.Abs
attribute [local simp] AOp.den AOpd.ev lk cellsOf rd_new rd_new0 rd_zero rd_succ wr_new wr_new0 wr_zero wr_succ splice fillA binA scal sliceCells List.length_append argsT AV.sc scL AObj.sc resV getAll AR.get AOp.slots opdSlots opdsSlots partSlots eqAt at_new0 at_new set_new0 set_new wrap64
set_option linter.unusedSimpArgs false
set_option linter.unusedVariables false
theorem c_slow (H : Heap) (x : Int) (hx : 0 ≤ x ∧ x ≤ 300000) : ACalls Try.prog F.ref03_slow [.int .i64 x] H (fun v h' => v = .int .i64 (dnV x) ∧ h' = H) := by
  have fin : ∀ n : Int, IsDown x n → n = dnV x := fun n h => down_uniq h (dnV_is hx.1)
  refine acalls_of ok_ref03_slow rfl fun hcl => ?_
  unfold ac_ref03_slow
  simp only [argsT, Nat.zero_add, Nat.reduceAdd]
  repeat (first|(with_reducible first|apply X1|apply X2|apply X3|apply X4|apply X5|apply X6|apply X7|apply X8|apply X9|apply Y1|apply Y2|apply Y3|apply Y4|apply Y5|apply Y6|apply Y7|apply Y8|apply Y9)|((with_reducible apply q_block_other);decide)|((with_reducible first|apply e_end|apply d_end);(simp;exact Red.rfl))|((first|((with_reducible apply O1);rfl)|((with_reducible apply O2);rfl)|((with_reducible apply P1);rfl)|((with_reducible apply P2);rfl)|((with_reducible apply P3);rfl)|((with_reducible apply P4);rfl)|((with_reducible apply P5);rfl));(simp (disch:=omega);exact Red.rfl);exact Red.rfl;(focus (first|(simp;done)|omega|(simp;omega))))|((with_reducible first|apply Z7|apply Z8|apply Z9);(simp (disch:=omega);exact Red.rfl))|((with_reducible first|apply Z1|apply Z2|apply Z3|apply Z4|apply Z5|apply Z6);(simp (disch:=omega);exact Red.rfl))|((with_reducible first|apply W1|apply W2|apply W3);(simp (disch:=omega);exact Red.rfl))|((with_reducible apply P6);rfl;(simp (disch:=omega);exact Red.rfl);exact Red.rfl;(focus (first|(simp [pr];done)|(simp [pr];omega))))|((with_reducible apply P7);rfl;(simp (disch:=omega);exact Red.rfl);exact Red.rfl;(focus (simp [repast, pr, AOp.sem];done))))
  have st : 1962 * x < 10 * (((0 : Int) + 2 ^ 16) * (0 + 2 ^ 16)) := by
    have e : ((0 : Int) + 2 ^ 16) = 65536 := by decide
    rw [e]; omega
  refine e_loop (ι := { y : Nat × Int // y.1 ≤ 16 ∧ 0 ≤ y.2 ∧ 10 * (y.2 * y.2) ≤ 1962 * x ∧ 1962 * x < 10 * ((y.2 + 2 ^ y.1) * (y.2 + 2 ^ y.1)) })
    (fun y => [(0, .int .i64 x), (3, .int .i64 y.1.2), (4, .int .i64 (if y.1.1 = 0 then 0 else 2 ^ (y.1.1 - 1)))]) (fun _ => H) (fun y => y.1.1) ⟨(16, 0), by decide, by decide, by simp only [Int.mul_zero]; omega, st⟩ ?_ ?_
  · exact .inl rfl
  · rintro ⟨⟨k, n⟩, hk, h0, h1, h2⟩
    dsimp only at hk h0 h1 h2 ⊢
    rcases k with _ | k
    · have hd : IsDown x n := ⟨h0, h1, by simpa using h2⟩
      have := fin n hd
      simp only [if_true]
      repeat (first|(with_reducible first|apply X1|apply X2|apply X3|apply X4|apply X5|apply X6|apply X7|apply X8|apply X9|apply Y1|apply Y2|apply Y3|apply Y4|apply Y5|apply Y6|apply Y7|apply Y8|apply Y9)|((with_reducible apply q_block_other);decide)|((with_reducible first|apply e_end|apply d_end);(simp;exact Red.rfl))|((first|((with_reducible apply O1);rfl)|((with_reducible apply O2);rfl)|((with_reducible apply P1);rfl)|((with_reducible apply P2);rfl)|((with_reducible apply P3);rfl)|((with_reducible apply P4);rfl)|((with_reducible apply P5);rfl));(simp (disch:=omega);exact Red.rfl);exact Red.rfl;(focus (first|(simp;done)|omega|(simp;omega))))|((with_reducible first|apply Z7|apply Z8|apply Z9);(simp (disch:=omega);exact Red.rfl))|((with_reducible first|apply Z1|apply Z2|apply Z3|apply Z4|apply Z5|apply Z6);(simp (disch:=omega);exact Red.rfl))|((with_reducible first|apply W1|apply W2|apply W3);(simp (disch:=omega);exact Red.rfl))|((with_reducible apply P6);rfl;(simp (disch:=omega);exact Red.rfl);exact Red.rfl;(focus (first|(simp [pr];done)|(simp [pr];omega))))|((with_reducible apply P7);rfl;(simp (disch:=omega);exact Red.rfl);exact Red.rfl;(focus (simp [repast, pr, AOp.sem];done))))
      exact q_stay (.inr rfl) (by simp; exact Red.rfl) ⟨by rw [this], rfl⟩
    · have hb0 : ¬ k + 1 = 0 := by omega
      simp only [hb0, if_false, Nat.add_sub_cancel]
      obtain ⟨b, hb⟩ : ∃ b : Int, (2 : Int) ^ k = b := ⟨_, rfl⟩
      have hb1 : 1 ≤ b := by rw [← hb]; exact Int.pow_pos (by decide)
      have hb2 : b ≤ 32768 := by
        rw [← hb]
        exact (show ∀ j : Nat, j ≤ 15 → (2 : Int) ^ j ≤ 32768 by decide) k (by omega)
      have hb3 : (2 : Int) ^ (k + 1) = b * 2 := by rw [Int.pow_succ, hb]
      have hb4 : b.tdiv 2 = if k = 0 then 0 else 2 ^ (k - 1) := by
        rw [← hb]
        rcases k with _ | k
        · rfl
        · rw [Int.pow_succ]; simp
      have hq : b.tdiv 2 = b / 2 := Int.tdiv_eq_ediv_of_nonneg (by omega)
      have hw : IntKind.i64.wrap (b.tdiv 2) = if k = 0 then 0 else 2 ^ (k - 1) := by rw [wrap64 (x := b.tdiv 2) (by omega) (by omega), hb4]
      rw [hb3] at h2
      rw [hb]
      have hn := sq_ge h0
      have m1 : 0 ≤ (n + b) * (n + b) := Int.mul_nonneg (by omega) (by omega)
      have m2 : (n + b) * (n + b) ≤ 60000000 * 60000000 := Int.mul_le_mul (by omega) (by omega) (by omega) (by omega)
      have e1 : 10 * (n + b) * (n + b) = 10 * ((n + b) * (n + b)) := Int.mul_assoc _ _ _
      have e2 : n + b * 2 = n + b + b := by omega
      rw [e2] at h2
      by_cases hc : 10 * ((n + b) * (n + b)) ≤ 1962 * x
      · repeat (first|(with_reducible first|apply X1|apply X2|apply X3|apply X4|apply X5|apply X6|apply X7|apply X8|apply X9|apply Y1|apply Y2|apply Y3|apply Y4|apply Y5|apply Y6|apply Y7|apply Y8|apply Y9)|((with_reducible apply q_block_other);decide)|((with_reducible first|apply e_end|apply d_end);(simp;exact Red.rfl))|((first|((with_reducible apply O1);rfl)|((with_reducible apply O2);rfl)|((with_reducible apply P1);rfl)|((with_reducible apply P2);rfl)|((with_reducible apply P3);rfl)|((with_reducible apply P4);rfl)|((with_reducible apply P5);rfl));(simp (disch:=omega) [e1, hc, show 0 < b by omega, hw];exact Red.rfl);exact Red.rfl;(focus (first|(simp;done)|omega|(simp;omega))))|((with_reducible first|apply Z7|apply Z8|apply Z9);(simp (disch:=omega) [e1, hc, show 0 < b by omega, hw];exact Red.rfl))|((with_reducible first|apply Z1|apply Z2|apply Z3|apply Z4|apply Z5|apply Z6);(simp (disch:=omega) [e1, hc, show 0 < b by omega, hw];exact Red.rfl))|((with_reducible first|apply W1|apply W2|apply W3);(simp (disch:=omega) [e1, hc, show 0 < b by omega, hw];exact Red.rfl))|((with_reducible apply P6);rfl;(simp (disch:=omega) [e1, hc, show 0 < b by omega, hw];exact Red.rfl);exact Red.rfl;(focus (first|(simp [pr];done)|(simp [pr];omega))))|((with_reducible apply P7);rfl;(simp (disch:=omega) [e1, hc, show 0 < b by omega, hw];exact Red.rfl);exact Red.rfl;(focus (simp [repast, pr, AOp.sem];done))))
        exact q_again ⟨(k, n + b), by dsimp only; omega, by dsimp only; omega, hc, by dsimp only; rw [hb]; exact h2⟩ (by dsimp only; omega) (.inl (by simp))
      · repeat (first|(with_reducible first|apply X1|apply X2|apply X3|apply X4|apply X5|apply X6|apply X7|apply X8|apply X9|apply Y1|apply Y2|apply Y3|apply Y4|apply Y5|apply Y6|apply Y7|apply Y8|apply Y9)|((with_reducible apply q_block_other);decide)|((with_reducible first|apply e_end|apply d_end);(simp;exact Red.rfl))|((first|((with_reducible apply O1);rfl)|((with_reducible apply O2);rfl)|((with_reducible apply P1);rfl)|((with_reducible apply P2);rfl)|((with_reducible apply P3);rfl)|((with_reducible apply P4);rfl)|((with_reducible apply P5);rfl));(simp (disch:=omega) [e1, hc, show 0 < b by omega, hw];exact Red.rfl);exact Red.rfl;(focus (first|(simp;done)|omega|(simp;omega))))|((with_reducible first|apply Z7|apply Z8|apply Z9);(simp (disch:=omega) [e1, hc, show 0 < b by omega, hw];exact Red.rfl))|((with_reducible first|apply Z1|apply Z2|apply Z3|apply Z4|apply Z5|apply Z6);(simp (disch:=omega) [e1, hc, show 0 < b by omega, hw];exact Red.rfl))|((with_reducible first|apply W1|apply W2|apply W3);(simp (disch:=omega) [e1, hc, show 0 < b by omega, hw];exact Red.rfl))|((with_reducible apply P6);rfl;(simp (disch:=omega) [e1, hc, show 0 < b by omega, hw];exact Red.rfl);exact Red.rfl;(focus (first|(simp [pr];done)|(simp [pr];omega))))|((with_reducible apply P7);rfl;(simp (disch:=omega) [e1, hc, show 0 < b by omega, hw];exact Red.rfl);exact Red.rfl;(focus (simp [repast, pr, AOp.sem];done))))
        exact q_again ⟨(k, n), by dsimp only; omega, h0, h1, by dsimp only; rw [hb]; omega⟩ (by dsimp only; omega) (.inl (by simp))
theorem c_fast (H : Heap) (x : Int) (hx : 0 ≤ x ∧ x ≤ 300000) : ACalls Try.prog F.ref03_fast [.int .i64 x] H (fun v h' => v = .int .i64 (upV x) ∧ h' = H) := by
  have fin : ∀ n : Int, IsUp x n → n = upV x := fun n h => up_uniq h (upV_is hx.1)
  have hd := dnV_is hx.1
  refine acalls_of ok_ref03_fast rfl fun hcl => ?_
  unfold ac_ref03_fast
  simp only [argsT, Nat.zero_add, Nat.reduceAdd]
  repeat (first|(with_reducible first|apply X1|apply X2|apply X3|apply X4|apply X5|apply X6|apply X7|apply X8|apply X9|apply Y1|apply Y2|apply Y3|apply Y4|apply Y5|apply Y6|apply Y7|apply Y8|apply Y9)|((with_reducible apply q_block_other);decide)|((with_reducible first|apply e_end|apply d_end);(simp;exact Red.rfl))|((first|((with_reducible apply O1);rfl)|((with_reducible apply O2);rfl)|((with_reducible apply P1);rfl)|((with_reducible apply P2);rfl)|((with_reducible apply P3);rfl)|((with_reducible apply P4);rfl)|((with_reducible apply P5);rfl));(simp (disch:=omega);exact Red.rfl);exact Red.rfl;(focus (first|(simp;done)|omega|(simp;omega))))|((with_reducible first|apply Z7|apply Z8|apply Z9);(simp (disch:=omega);exact Red.rfl))|((with_reducible first|apply Z1|apply Z2|apply Z3|apply Z4|apply Z5|apply Z6);(simp (disch:=omega);exact Red.rfl))|((with_reducible first|apply W1|apply W2|apply W3);(simp (disch:=omega);exact Red.rfl))|((with_reducible apply P6);rfl;(simp (disch:=omega);exact Red.rfl);exact Red.rfl;(focus (first|(simp [pr];done)|(simp [pr];omega))))|((with_reducible apply P7);rfl;(simp (disch:=omega);exact Red.rfl);exact Red.rfl;(focus (simp [repast, pr, AOp.sem];done))))
  (with_reducible apply e_call); (simp; exact Red.rfl); exact c_slow _ x hx
  rintro _ _ ⟨rfl, rfl⟩
  generalize dnV x = n at hd
  obtain ⟨h0, h1, h2⟩ := hd
  have hn := sq_ge h0
  have m2 : n * n ≤ 60000000 * 60000000 := Int.mul_le_mul (by omega) (by omega) (by omega) (by omega)
  have m0 : 0 ≤ n * n := Int.mul_nonneg h0 h0
  have e1 : 10 * n * n = 10 * (n * n) := Int.mul_assoc _ _ _
  by_cases hc : 10 * (n * n) < 1962 * x
  · have := fin (n + 1) ⟨by omega, by omega, .inr (by rw [Int.add_sub_cancel]; exact hc)⟩
    repeat (first|(with_reducible first|apply X1|apply X2|apply X3|apply X4|apply X5|apply X6|apply X7|apply X8|apply X9|apply Y1|apply Y2|apply Y3|apply Y4|apply Y5|apply Y6|apply Y7|apply Y8|apply Y9)|((with_reducible apply q_block_other);decide)|((with_reducible first|apply e_end|apply d_end);(simp;exact Red.rfl))|((first|((with_reducible apply O1);rfl)|((with_reducible apply O2);rfl)|((with_reducible apply P1);rfl)|((with_reducible apply P2);rfl)|((with_reducible apply P3);rfl)|((with_reducible apply P4);rfl)|((with_reducible apply P5);rfl));(simp (disch:=omega) [e1, hc];exact Red.rfl);exact Red.rfl;(focus (first|(simp;done)|omega|(simp;omega))))|((with_reducible first|apply Z7|apply Z8|apply Z9);(simp (disch:=omega) [e1, hc];exact Red.rfl))|((with_reducible first|apply Z1|apply Z2|apply Z3|apply Z4|apply Z5|apply Z6);(simp (disch:=omega) [e1, hc];exact Red.rfl))|((with_reducible first|apply W1|apply W2|apply W3);(simp (disch:=omega) [e1, hc];exact Red.rfl))|((with_reducible apply P6);rfl;(simp (disch:=omega) [e1, hc];exact Red.rfl);exact Red.rfl;(focus (first|(simp [pr];done)|(simp [pr];omega))))|((with_reducible apply P7);rfl;(simp (disch:=omega) [e1, hc];exact Red.rfl);exact Red.rfl;(focus (simp [repast, pr, AOp.sem];done))))
    exact q_stay (.inr rfl) (by simp; exact Red.rfl) ⟨by rw [this], rfl⟩
  · have := fin n ⟨h0, by omega, by
      rcases Int.lt_or_le 0 n with h | h
      · right
        have e : (n - 1) * (n - 1) = n * n - n - n + 1 := by rw [Int.sub_mul, Int.mul_sub]; omega
        omega
      · left; omega⟩
    repeat (first|(with_reducible first|apply X1|apply X2|apply X3|apply X4|apply X5|apply X6|apply X7|apply X8|apply X9|apply Y1|apply Y2|apply Y3|apply Y4|apply Y5|apply Y6|apply Y7|apply Y8|apply Y9)|((with_reducible apply q_block_other);decide)|((with_reducible first|apply e_end|apply d_end);(simp;exact Red.rfl))|((first|((with_reducible apply O1);rfl)|((with_reducible apply O2);rfl)|((with_reducible apply P1);rfl)|((with_reducible apply P2);rfl)|((with_reducible apply P3);rfl)|((with_reducible apply P4);rfl)|((with_reducible apply P5);rfl));(simp (disch:=omega) [e1, hc];exact Red.rfl);exact Red.rfl;(focus (first|(simp;done)|omega|(simp;omega))))|((with_reducible first|apply Z7|apply Z8|apply Z9);(simp (disch:=omega) [e1, hc];exact Red.rfl))|((with_reducible first|apply Z1|apply Z2|apply Z3|apply Z4|apply Z5|apply Z6);(simp (disch:=omega) [e1, hc];exact Red.rfl))|((with_reducible first|apply W1|apply W2|apply W3);(simp (disch:=omega) [e1, hc];exact Red.rfl))|((with_reducible apply P6);rfl;(simp (disch:=omega) [e1, hc];exact Red.rfl);exact Red.rfl;(focus (first|(simp [pr];done)|(simp [pr];omega))))|((with_reducible apply P7);rfl;(simp (disch:=omega) [e1, hc];exact Red.rfl);exact Red.rfl;(focus (simp [repast, pr, AOp.sem];done))))
    exact q_stay (.inr rfl) (by simp; exact Red.rfl) ⟨by rw [this], rfl⟩
end Go.Proofs
/- The reference's heads. -/
namespace Go.Proofs
open Go.Abs
attribute [local simp] AOp.den AOpd.ev lk cellsOf rd_new rd_new0 rd_zero rd_succ wr_new wr_new0 wr_zero wr_succ splice fillA binA scal sliceCells List.length_append argsT AV.sc scL AObj.sc resV getAll AR.get AOp.slots opdSlots opdsSlots partSlots eqAt at_new0 at_new set_new0 set_new wrap64
set_option linter.unusedSimpArgs false
set_option linter.unusedVariables false
theorem e_appL {P : Program} {l : List AO} {K : St → Prop} {t : List (Nat × AV)} {h A G : Heap} {d sz bytes n m : Nat} {v w : AV} {cs new : List AV} {x y : AOpd} (he : h = A ++ G)
    (hx : Red (x.ev t) v) (hy : Red (y.ev t) w) (hl : LAt h sz v cs n) (hvi : ∀ i, isId v i → A.length ≤ i) (hw : sliceCells h sz w = some (m, new)) (hsc : new.all scal = true) (hb : (n + m) * bytes ≤ 140737488355328)
    (hn : ∀ (G' : Heap) (v' : AV), LAt (A ++ G') sz v' (cs ++ new) (n + m) → (∀ i, isId v' i → A.length ≤ i) → EOps P l K ((d, v') :: t) (A ++ G')) :
    EOps P (⟨some d, .append x y sz bytes, none⟩ :: l) K t h := by
  refine e_app hx hy hl hw hsc hb fun h2 e1 e2 e3 => ?_
  have hA : A.length ≤ h.length := by rw [he]; simp
  obtain ⟨G2, rfl⟩ := ext_of (A := A) (h' := h2) (by omega) (by
    intro k hk
    rw [e2 k (by omega) (fun hid => by have := hvi k hid; omega), he, List.getElem?_append_left hk])
  refine hn G2 _ e3 (fun i hi => ?_)
  have : h.length = i := hi
  omega
theorem le_lsL {H G : Heap} {n sz : Nat} {cs : List AV} {v : AV} (hcs : Plain cs) (hl : LAt (H ++ G) sz v cs n) (h0 : 0 < n) (hb : ∀ i, isId v i → H.length ≤ i) :
    ∃ ex, Le H ⟨[(0, v)], H ++ G⟩ ⟨[(0, .slice H.length 0 n sz ex)], H ++ [.cells cs true]⟩ := by
  obtain ⟨hc, ⟨rfl, h1⟩ | ⟨id, ex, rfl, hh⟩⟩ := hl
  · omega
  · have h1 := hb id rfl
    rw [List.getElem?_append_right h1] at hh
    refine ⟨ex, le_plain [id - H.length] [AObj.cells cs true] (by simp) (by simp [hh]) (by intro o ho; simp only [List.mem_singleton] at ho; subst ho; exact hcs.o true) ?_⟩
    intro x hx
    simp only [List.mem_singleton] at hx
    subst hx
    refine ⟨by simp [AV.sc], ?_⟩
    simp only [lk, if_true, AV.ren]
    congr 2
    simp [sh]; omega
theorem LAt.swap3 {H G : Heap} {c0 c1 a b : AObj} {sz n : Nat} {v : AV} {cs : List AV} (h : LAt (H ++ c0 :: c1 :: a :: G) sz v cs n) (hvi : ∀ i, isId v i → H.length + 3 ≤ i) : LAt (H ++ c0 :: c1 :: b :: G) sz v cs n :=
  h.keep fun i hi => by
    have := hvi i hi
    obtain ⟨j, rfl⟩ : ∃ j, i = H.length + 3 + j := ⟨i - (H.length + 3), by omega⟩
    rw [List.getElem?_append_right (by omega), List.getElem?_append_right (by omega), show H.length + 3 + j - H.length = j + 3 by omega]
    rfl
theorem slice_end2 {L h : Heap} {id : Nat} {x y : AV} {b ex : Bool} (e1 : h = L ++ [.cells [x, y] b]) (e2 : id = L.length) : sliceCells h 2 (.slice id 0 1 2 ex) = some (1, [x, y]) := by
  subst e1 e2
  simp [sliceCells, rd]
set_option maxHeartbeats 2000000 in
theorem c_r3heads (H : Heap) (l : List Str) (s : Sl) (id off : Nat) (ex : Bool) (hs : rd H id off (l.length * 9) = some (l.flatMap Str.av)) (hv : validL l) (hk : s.ok) :
    ACalls Try.prog F.ref03_heads [.agg [.slice id off l.length 9 ex], .agg s.av] H (fun v h' => ∃ ex2, v = .slice H.length 0 (l.length + 1) 2 ex2 ∧ h' = H ++ [.cells (avR (r2 (hd false s l) (hd true s l)) (l.length + 1)) true]) := by
  have hid := rd_lt hs
  have h12 := hv.1
  have b0 := fun {i : Nat} (hi : i ≤ l.length) => hd_bd hv hk false hi
  have b1 := fun {i : Nat} (hi : i ≤ l.length) => hd_bd hv hk true hi
  have n0 : ∀ i, hd false s l (i + 1) = nx (hd false s l i) s.d2 (strAt l i).lHi (strAt l i).fLo s.r2 s.w1 := fun _ => rfl
  have n1 : ∀ i, hd true s l (i + 1) = nx (hd true s l i) s.d1 (strAt l i).lLo (strAt l i).fHi s.r1 s.w2 := fun _ => rfl
  have z0 : hd false s l 0 = s.s1 := rfl
  have z1 : hd true s l 0 = s.s2 := rfl
  obtain ⟨k0, k1, k2, k3, k4, k5⟩ := hk
  generalize hd false s l = f at *
  generalize hd true s l = g at *
  obtain ⟨c, s1, s2, r1', r2', d1, d2, w1, w2, t1, t2⟩ := s
  simp only at *
  simp only [Sl.av]
  refine acalls_of ok_ref03_heads rfl fun hcl => ?_
  unfold ac_ref03_heads
  simp only [argsT, Nat.zero_add, Nat.reduceAdd]
  repeat (first|(with_reducible first|apply X1|apply X2|apply X3|apply X4|apply X5|apply X6|apply X7|apply X8|apply X9|apply Y1|apply Y2|apply Y3|apply Y4|apply Y5|apply Y6|apply Y7|apply Y8|apply Y9)|((with_reducible apply q_block_other);decide)|((with_reducible first|apply e_end|apply d_end);(simp;exact Red.rfl))|((first|((with_reducible apply O1);rfl)|((with_reducible apply O2);rfl)|((with_reducible apply P1);rfl)|((with_reducible apply P2);rfl)|((with_reducible apply P3);rfl)|((with_reducible apply P4);rfl)|((with_reducible apply P5);rfl));(simp (disch:=omega);exact Red.rfl);exact Red.rfl;(focus (first|(simp;done)|omega|(simp;omega))))|((with_reducible first|apply Z7|apply Z8|apply Z9);(simp (disch:=omega);exact Red.rfl))|((with_reducible first|apply Z1|apply Z2|apply Z3|apply Z4|apply Z5|apply Z6);(simp (disch:=omega);exact Red.rfl))|((with_reducible first|apply W1|apply W2|apply W3);(simp (disch:=omega);exact Red.rfl))|((with_reducible apply P6);rfl;(simp (disch:=omega);exact Red.rfl);exact Red.rfl;(focus (first|(simp [pr];done)|(simp [pr];omega))))|((with_reducible apply P7);rfl;(simp (disch:=omega);exact Red.rfl);exact Red.rfl;(focus (simp [repast, pr, AOp.sem];done))))
  refine e_loop (ι := { x : Nat × AV × Heap // x.1 ≤ l.length ∧ LAt (H ++ (.cells [.slice id off l.length 9 ex] true :: .cells [.int .u8 c, .int .i64 s1, .int .i64 s2, .int .i64 r1', .int .i64 r2', .int .i64 d1, .int .i64 d2, .int .i64 w1, .int .i64 w2, .int .i64 t1, .int .i64 t2] true :: .cells [.int .i64 (f x.1), .int .i64 (g x.1)] true :: x.2.2)) 2 x.2.1 (avR (r2 f g) (x.1 + 1)) (x.1 + 1) ∧ ∀ i, isId x.2.1 i → H.length + 3 ≤ i })
    (fun x => [(2, .ptr H.length 0), (3, .ptr (H.length + 1) 0), (5, .ptr (H.length + 2) 0), (6, x.1.2.1), (7, .int .i64 x.1.1)])
    (fun x => H ++ (.cells [.slice id off l.length 9 ex] true :: .cells [.int .u8 c, .int .i64 s1, .int .i64 s2, .int .i64 r1', .int .i64 r2', .int .i64 d1, .int .i64 d2, .int .i64 w1, .int .i64 w2, .int .i64 t1, .int .i64 t2] true :: .cells [.int .i64 (f x.1.1), .int .i64 (g x.1.1)] true :: x.1.2.2)) (fun x => l.length - x.1.1) ⟨(0, .slice (H.length + 3) 0 1 2 true, [.cells [.int .i64 s1, .int .i64 s2] true]), by simp, ?_, ?_⟩ ?_ ?_
  · dsimp only
    refine LAt.of (by simp [at_new, Nat.add_assoc, avR_succ, avR_zero, r2, z0, z1]) (by rw [(plain_r2 f g).length]) true
  · intro i hi
    have : H.length + 3 = i := hi
    omega
  · dsimp only
    exact .inl (by simp [z0, z1])
  · rintro ⟨⟨i, v, G⟩, hi, hv2, hvi⟩
    dsimp only at hi hv2 hvi ⊢
    by_cases hlt : i < l.length
    · have hlt2 : (i : Int) < l.length := by omega
      have hx := rd_row Str.av_length hs hlt
      have ho := str_ok hv hlt
      have hst := strAt_eq hlt
      have n0 := n0 i
      have n1 := n1 i
      rw [hst] at n0 n1 ho
      generalize l[i] = s at hx ho n0 n1
      obtain ⟨a1, a2, a3, a4, a5, a6, a7, a8, a9⟩ := s
      simp only [Str.av] at hx
      simp only [Str.ok] at ho
      simp only at n0 n1
      have b00 := b0 hi
      have b10 := b1 hi
      repeat (first|(with_reducible first|apply X1|apply X2|apply X3|apply X4|apply X5|apply X6|apply X7|apply X8|apply X9|apply Y1|apply Y2|apply Y3|apply Y4|apply Y5|apply Y6|apply Y7|apply Y8|apply Y9)|((with_reducible apply q_block_other);decide)|((with_reducible first|apply e_end|apply d_end);(simp;exact Red.rfl))|((first|((with_reducible apply O1);rfl)|((with_reducible apply O2);rfl)|((with_reducible apply P1);rfl)|((with_reducible apply P2);rfl)|((with_reducible apply P3);rfl)|((with_reducible apply P4);rfl)|((with_reducible apply P5);rfl));(simp (disch:=omega) [hlt, hlt2, rd_old _ hid, hx];exact Red.rfl);exact Red.rfl;(focus (first|(simp;done)|omega|(simp;omega))))|((with_reducible first|apply Z7|apply Z8|apply Z9);(simp (disch:=omega) [hlt, hlt2, rd_old _ hid, hx];exact Red.rfl))|((with_reducible first|apply Z1|apply Z2|apply Z3|apply Z4|apply Z5|apply Z6);(simp (disch:=omega) [hlt, hlt2, rd_old _ hid, hx];exact Red.rfl))|((with_reducible first|apply W1|apply W2|apply W3);(simp (disch:=omega) [hlt, hlt2, rd_old _ hid, hx];exact Red.rfl))|((with_reducible apply P6);rfl;(simp (disch:=omega) [hlt, hlt2, rd_old _ hid, hx];exact Red.rfl);exact Red.rfl;(focus (first|(simp [pr];done)|(simp [pr];omega))))|((with_reducible apply P7);rfl;(simp (disch:=omega) [hlt, hlt2, rd_old _ hid, hx];exact Red.rfl);exact Red.rfl;(focus (simp [repast, pr, AOp.sem];done))))
      (with_reducible apply d_call); (simp; exact Red.rfl); exact c3_Next _ _ _ _ _ _ _ (by omega) (by omega) (by omega) (by omega) (by omega) (by omega); (focus (first | (simp; done) | (simp; omega)))
      repeat (first|(with_reducible first|apply X1|apply X2|apply X3|apply X4|apply X5|apply X6|apply X7|apply X8|apply X9|apply Y1|apply Y2|apply Y3|apply Y4|apply Y5|apply Y6|apply Y7|apply Y8|apply Y9)|((with_reducible apply q_block_other);decide)|((with_reducible first|apply e_end|apply d_end);(simp;exact Red.rfl))|((first|((with_reducible apply O1);rfl)|((with_reducible apply O2);rfl)|((with_reducible apply P1);rfl)|((with_reducible apply P2);rfl)|((with_reducible apply P3);rfl)|((with_reducible apply P4);rfl)|((with_reducible apply P5);rfl));(simp (disch:=omega);exact Red.rfl);exact Red.rfl;(focus (first|(simp;done)|omega|(simp;omega))))|((with_reducible first|apply Z7|apply Z8|apply Z9);(simp (disch:=omega);exact Red.rfl))|((with_reducible first|apply Z1|apply Z2|apply Z3|apply Z4|apply Z5|apply Z6);(simp (disch:=omega);exact Red.rfl))|((with_reducible first|apply W1|apply W2|apply W3);(simp (disch:=omega);exact Red.rfl))|((with_reducible apply P6);rfl;(simp (disch:=omega);exact Red.rfl);exact Red.rfl;(focus (first|(simp [pr];done)|(simp [pr];omega))))|((with_reducible apply P7);rfl;(simp (disch:=omega);exact Red.rfl);exact Red.rfl;(focus (simp [repast, pr, AOp.sem];done))))
      (with_reducible apply d_call); (simp; exact Red.rfl); exact c3_Next _ _ _ _ _ _ _ (by omega) (by omega) (by omega) (by omega) (by omega) (by omega); (focus (first | (simp; done) | (simp; omega)))
      rw [← n0, ← n1]
      repeat (first|(with_reducible first|apply X1|apply X2|apply X3|apply X4|apply X5|apply X6|apply X7|apply X8|apply X9|apply Y1|apply Y2|apply Y3|apply Y4|apply Y5|apply Y6|apply Y7|apply Y8|apply Y9)|((with_reducible apply q_block_other);decide)|((with_reducible first|apply e_end|apply d_end);(simp;exact Red.rfl))|((first|((with_reducible apply O1);rfl)|((with_reducible apply O2);rfl)|((with_reducible apply P1);rfl)|((with_reducible apply P2);rfl)|((with_reducible apply P3);rfl)|((with_reducible apply P4);rfl)|((with_reducible apply P5);rfl));(simp (disch:=omega);exact Red.rfl);exact Red.rfl;(focus (first|(simp;done)|omega|(simp;omega))))|((with_reducible first|apply Z7|apply Z8|apply Z9);(simp (disch:=omega);exact Red.rfl))|((with_reducible first|apply Z1|apply Z2|apply Z3|apply Z4|apply Z5|apply Z6);(simp (disch:=omega);exact Red.rfl))|((with_reducible first|apply W1|apply W2|apply W3);(simp (disch:=omega);exact Red.rfl))|((with_reducible apply P6);rfl;(simp (disch:=omega);exact Red.rfl);exact Red.rfl;(focus (first|(simp [pr];done)|(simp [pr];omega))))|((with_reducible apply P7);rfl;(simp (disch:=omega);exact Red.rfl);exact Red.rfl;(focus (simp [repast, pr, AOp.sem];done))))
      have hv3 := (hv2.swap3 (b := .cells [.int .i64 (f (i + 1)), .int .i64 (g (i + 1))] true) hvi).app [.cells [.int .i64 a1, .int .i64 a2, .int .i64 a3, .int .i64 a4, .int .i64 a5, .int .i64 a6, .int .i64 a7, .int .u8 a8, .int .i64 a9] true, .cells [.int .i64 (f (i + 1)), .int .i64 (g (i + 1))] true]
      have e : avR (r2 f g) (i + 1) ++ [.int .i64 (f (i + 1)), .int .i64 (g (i + 1))] = avR (r2 f g) (i + 1 + 1) := by rw [avR_succ _ (i + 1)]; rfl
      refine e_appL (A := H ++ [.cells [.slice id off l.length 9 ex] true, .cells [.int .u8 c, .int .i64 s1, .int .i64 s2, .int .i64 r1', .int .i64 r2', .int .i64 d1, .int .i64 d2, .int .i64 w1, .int .i64 w2, .int .i64 t1, .int .i64 t2] true, .cells [.int .i64 (f (i + 1)), .int .i64 (g (i + 1))] true]) (G := G ++ [.cells [.int .i64 a1, .int .i64 a2, .int .i64 a3, .int .i64 a4, .int .i64 a5, .int .i64 a6, .int .i64 a7, .int .u8 a8, .int .i64 a9] true, .cells [.int .i64 (f (i + 1)), .int .i64 (g (i + 1))] true]) (cs := avR (r2 f g) (i + 1)) (n := i + 1) (m := 1) (new := [.int .i64 (f (i + 1)), .int .i64 (g (i + 1))]) (by simp) (by simp; exact Red.rfl) (by simp; exact Red.rfl) (by simpa using hv3) (fun k hk => by have := hvi k hk; simp; omega) (slice_end2 (b := true) (L := H ++ .cells [.slice id off l.length 9 ex] true :: .cells [.int .u8 c, .int .i64 s1, .int .i64 s2, .int .i64 r1', .int .i64 r2', .int .i64 d1, .int .i64 d2, .int .i64 w1, .int .i64 w2, .int .i64 t1, .int .i64 t2] true :: .cells [.int .i64 (f (i + 1)), .int .i64 (g (i + 1))] true :: (G ++ [.cells [.int .i64 a1, .int .i64 a2, .int .i64 a3, .int .i64 a4, .int .i64 a5, .int .i64 a6, .int .i64 a7, .int .u8 a8, .int .i64 a9] true])) (by simp) (by simp <;> omega)) (by simp) (by omega) ?_
      intro G2 v2 e3 e4
      simp only [List.append_assoc, List.cons_append, List.nil_append] at e3 e4 ⊢
      rw [e] at e3
      repeat (first|(with_reducible first|apply X1|apply X2|apply X3|apply X4|apply X5|apply X6|apply X7|apply X8|apply X9|apply Y1|apply Y2|apply Y3|apply Y4|apply Y5|apply Y6|apply Y7|apply Y8|apply Y9)|((with_reducible apply q_block_other);decide)|((with_reducible first|apply e_end|apply d_end);(simp;exact Red.rfl))|((first|((with_reducible apply O1);rfl)|((with_reducible apply O2);rfl)|((with_reducible apply P1);rfl)|((with_reducible apply P2);rfl)|((with_reducible apply P3);rfl)|((with_reducible apply P4);rfl)|((with_reducible apply P5);rfl));(simp (disch:=omega);exact Red.rfl);exact Red.rfl;(focus (first|(simp;done)|omega|(simp;omega))))|((with_reducible first|apply Z7|apply Z8|apply Z9);(simp (disch:=omega);exact Red.rfl))|((with_reducible first|apply Z1|apply Z2|apply Z3|apply Z4|apply Z5|apply Z6);(simp (disch:=omega);exact Red.rfl))|((with_reducible first|apply W1|apply W2|apply W3);(simp (disch:=omega);exact Red.rfl))|((with_reducible apply P6);rfl;(simp (disch:=omega);exact Red.rfl);exact Red.rfl;(focus (first|(simp [pr];done)|(simp [pr];omega))))|((with_reducible apply P7);rfl;(simp (disch:=omega);exact Red.rfl);exact Red.rfl;(focus (simp [repast, pr, AOp.sem];done))))
      refine q_again ⟨(i + 1, v2, G2), by dsimp only; omega, e3, fun k hk => by have := e4 k hk; simpa using this⟩ (by dsimp only; omega) (.inl (by simp))
    · have hlt2 : ¬ (i : Int) < l.length := by omega
      obtain rfl : i = l.length := by omega
      repeat (first|(with_reducible first|apply X1|apply X2|apply X3|apply X4|apply X5|apply X6|apply X7|apply X8|apply X9|apply Y1|apply Y2|apply Y3|apply Y4|apply Y5|apply Y6|apply Y7|apply Y8|apply Y9)|((with_reducible apply q_block_other);decide)|((with_reducible first|apply e_end|apply d_end);(simp;exact Red.rfl))|((first|((with_reducible apply O1);rfl)|((with_reducible apply O2);rfl)|((with_reducible apply P1);rfl)|((with_reducible apply P2);rfl)|((with_reducible apply P3);rfl)|((with_reducible apply P4);rfl)|((with_reducible apply P5);rfl));(simp (disch:=omega) [hlt2];exact Red.rfl);exact Red.rfl;(focus (first|(simp;done)|omega|(simp;omega))))|((with_reducible first|apply Z7|apply Z8|apply Z9);(simp (disch:=omega) [hlt2];exact Red.rfl))|((with_reducible first|apply Z1|apply Z2|apply Z3|apply Z4|apply Z5|apply Z6);(simp (disch:=omega) [hlt2];exact Red.rfl))|((with_reducible first|apply W1|apply W2|apply W3);(simp (disch:=omega) [hlt2];exact Red.rfl))|((with_reducible apply P6);rfl;(simp (disch:=omega) [hlt2];exact Red.rfl);exact Red.rfl;(focus (first|(simp [pr];done)|(simp [pr];omega))))|((with_reducible apply P7);rfl;(simp (disch:=omega) [hlt2];exact Red.rfl);exact Red.rfl;(focus (simp [repast, pr, AOp.sem];done))))
      obtain ⟨ex2, hle⟩ := le_lsL (H := H) ((plain_r2 f g).plain (l.length + 1)) hv2 (by omega) (fun i hi => by have := hvi i hi; omega)
      exact q_post (v' := .slice H.length 0 (l.length + 1) 2 ex2) (.inr rfl) (by simp; exact Red.rfl) hle ⟨ex2, rfl, rfl⟩
end Go.Proofs
/- What the reference tells of sleds. -/
namespace Go.Proofs
open Go.Abs
attribute [local simp] AOp.den AOpd.ev lk cellsOf rd_new rd_new0 rd_zero rd_succ wr_new wr_new0 wr_zero wr_succ splice fillA binA scal sliceCells List.length_append argsT AV.sc scL AObj.sc resV getAll AR.get AOp.slots opdSlots opdsSlots partSlots eqAt at_new0 at_new set_new0 set_new wrap64
set_option linter.unusedSimpArgs false
set_option linter.unusedVariables false
theorem sav_eq (s : Sl) : s.av = [.int .u8 s.c, .int .i64 s.s1, .int .i64 s.s2, .int .i64 s.r1, .int .i64 s.r2, .int .i64 s.d1, .int .i64 s.d2, .int .i64 s.w1, .int .i64 s.w2, .int .i64 s.t1, .int .i64 s.t2] := rfl
theorem c_r3Check (H : Heap) (s : Sl) (hc : 0 ≤ s.c ∧ s.c ≤ 255) : ACalls Try.prog F.ref03_Check [.agg s.av] H (fun v h' => h' = H ∧ ∃ b : Bool, v = .int .i64 (if b = true then 0 else 30) ∧ (b = true ↔ s.ok)) := by
  have kS := fun G => c_rSled G s hc
  simp only [sav_eq] at kS ⊢
  refine acalls_of ok_ref03_Check rfl fun hcl => ?_
  unfold ac_ref03_Check
  simp only [argsT, Nat.zero_add, Nat.reduceAdd]
  repeat (first|(with_reducible first|apply X1|apply X2|apply X3|apply X4|apply X5|apply X6|apply X7|apply X8|apply X9|apply Y1|apply Y2|apply Y3|apply Y4|apply Y5|apply Y6|apply Y7|apply Y8|apply Y9)|((with_reducible apply q_block_other);decide)|((with_reducible first|apply e_end|apply d_end);(simp;exact Red.rfl))|((first|((with_reducible apply O1);rfl)|((with_reducible apply O2);rfl)|((with_reducible apply P1);rfl)|((with_reducible apply P2);rfl)|((with_reducible apply P3);rfl)|((with_reducible apply P4);rfl)|((with_reducible apply P5);rfl));(simp (disch:=omega);exact Red.rfl);exact Red.rfl;(focus (first|(simp;done)|omega|(simp;omega))))|((with_reducible first|apply Z7|apply Z8|apply Z9);(simp (disch:=omega);exact Red.rfl))|((with_reducible first|apply Z1|apply Z2|apply Z3|apply Z4|apply Z5|apply Z6);(simp (disch:=omega);exact Red.rfl))|((with_reducible first|apply W1|apply W2|apply W3);(simp (disch:=omega);exact Red.rfl))|((with_reducible apply P6);rfl;(simp (disch:=omega);exact Red.rfl);exact Red.rfl;(focus (first|(simp [pr];done)|(simp [pr];omega))))|((with_reducible apply P7);rfl;(simp (disch:=omega);exact Red.rfl);exact Red.rfl;(focus (simp [repast, pr, AOp.sem];done))))
  (with_reducible apply e_call); (simp; exact Red.rfl); exact kS _
  rintro _ _ ⟨rfl, b, rfl, hb⟩
  cases b with
  | false =>
    repeat (first|(with_reducible first|apply X1|apply X2|apply X3|apply X4|apply X5|apply X6|apply X7|apply X8|apply X9|apply Y1|apply Y2|apply Y3|apply Y4|apply Y5|apply Y6|apply Y7|apply Y8|apply Y9)|((with_reducible apply q_block_other);decide)|((with_reducible first|apply e_end|apply d_end);(simp;exact Red.rfl))|((first|((with_reducible apply O1);rfl)|((with_reducible apply O2);rfl)|((with_reducible apply P1);rfl)|((with_reducible apply P2);rfl)|((with_reducible apply P3);rfl)|((with_reducible apply P4);rfl)|((with_reducible apply P5);rfl));(simp (disch:=omega);exact Red.rfl);exact Red.rfl;(focus (first|(simp;done)|omega|(simp;omega))))|((with_reducible first|apply Z7|apply Z8|apply Z9);(simp (disch:=omega);exact Red.rfl))|((with_reducible first|apply Z1|apply Z2|apply Z3|apply Z4|apply Z5|apply Z6);(simp (disch:=omega);exact Red.rfl))|((with_reducible first|apply W1|apply W2|apply W3);(simp (disch:=omega);exact Red.rfl))|((with_reducible apply P6);rfl;(simp (disch:=omega);exact Red.rfl);exact Red.rfl;(focus (first|(simp [pr];done)|(simp [pr];omega))))|((with_reducible apply P7);rfl;(simp (disch:=omega);exact Red.rfl);exact Red.rfl;(focus (simp [repast, pr, AOp.sem];done))))
    refine q_drop (.inr rfl) (by simp; exact Red.rfl) (by simp) ⟨rfl, false, rfl, hb⟩
  | true =>
    repeat (first|(with_reducible first|apply X1|apply X2|apply X3|apply X4|apply X5|apply X6|apply X7|apply X8|apply X9|apply Y1|apply Y2|apply Y3|apply Y4|apply Y5|apply Y6|apply Y7|apply Y8|apply Y9)|((with_reducible apply q_block_other);decide)|((with_reducible first|apply e_end|apply d_end);(simp;exact Red.rfl))|((first|((with_reducible apply O1);rfl)|((with_reducible apply O2);rfl)|((with_reducible apply P1);rfl)|((with_reducible apply P2);rfl)|((with_reducible apply P3);rfl)|((with_reducible apply P4);rfl)|((with_reducible apply P5);rfl));(simp (disch:=omega);exact Red.rfl);exact Red.rfl;(focus (first|(simp;done)|omega|(simp;omega))))|((with_reducible first|apply Z7|apply Z8|apply Z9);(simp (disch:=omega);exact Red.rfl))|((with_reducible first|apply Z1|apply Z2|apply Z3|apply Z4|apply Z5|apply Z6);(simp (disch:=omega);exact Red.rfl))|((with_reducible first|apply W1|apply W2|apply W3);(simp (disch:=omega);exact Red.rfl))|((with_reducible apply P6);rfl;(simp (disch:=omega);exact Red.rfl);exact Red.rfl;(focus (first|(simp [pr];done)|(simp [pr];omega))))|((with_reducible apply P7);rfl;(simp (disch:=omega);exact Red.rfl);exact Red.rfl;(focus (simp [repast, pr, AOp.sem];done))))
    refine q_drop (.inr rfl) (by simp; exact Red.rfl) (by simp) ⟨rfl, true, rfl, hb⟩
theorem c_r3both (H : Heap) (l : List Str) (s : Sl) (id off : Nat) (ex : Bool) (hs : rd H id off (l.length * 9) = some (l.flatMap Str.av)) (hn : (l.length : Int) < 1000000) (hc : 0 ≤ s.c ∧ s.c ≤ 255) {e : Int} (he1 : ¬ validL l → e = 10) (he2 : validL l → ¬ s.ok → e = 30) (he3 : validL l → s.ok → e = 0) :
    ACalls Try.prog F.ref03_both [.agg [.slice id off l.length 9 ex], .agg s.av] H (fun v h' => v = .int .i64 e ∧ h' = H) := by
  have hid := rd_lt hs
  have kc := fun G => c_r3Check G s hc
  simp only [sav_eq] at kc ⊢
  refine acalls_of ok_ref03_both rfl fun hcl => ?_
  unfold ac_ref03_both
  simp only [argsT, Nat.zero_add, Nat.reduceAdd]
  repeat (first|(with_reducible first|apply X1|apply X2|apply X3|apply X4|apply X5|apply X6|apply X7|apply X8|apply X9|apply Y1|apply Y2|apply Y3|apply Y4|apply Y5|apply Y6|apply Y7|apply Y8|apply Y9)|((with_reducible apply q_block_other);decide)|((with_reducible first|apply e_end|apply d_end);(simp;exact Red.rfl))|((first|((with_reducible apply O1);rfl)|((with_reducible apply O2);rfl)|((with_reducible apply P1);rfl)|((with_reducible apply P2);rfl)|((with_reducible apply P3);rfl)|((with_reducible apply P4);rfl)|((with_reducible apply P5);rfl));(simp (disch:=omega);exact Red.rfl);exact Red.rfl;(focus (first|(simp;done)|omega|(simp;omega))))|((with_reducible first|apply Z7|apply Z8|apply Z9);(simp (disch:=omega);exact Red.rfl))|((with_reducible first|apply Z1|apply Z2|apply Z3|apply Z4|apply Z5|apply Z6);(simp (disch:=omega);exact Red.rfl))|((with_reducible first|apply W1|apply W2|apply W3);(simp (disch:=omega);exact Red.rfl))|((with_reducible apply P6);rfl;(simp (disch:=omega);exact Red.rfl);exact Red.rfl;(focus (first|(simp [pr];done)|(simp [pr];omega))))|((with_reducible apply P7);rfl;(simp (disch:=omega);exact Red.rfl);exact Red.rfl;(focus (simp [repast, pr, AOp.sem];done))))
  (with_reducible apply e_call); (simp; exact Red.rfl); exact c_rTrack _ l id off ex (by rw [rd_old _ hid]; exact hs) hn
  rintro _ _ ⟨rfl, b, rfl, hb⟩
  cases b with
  | false =>
    obtain rfl := he1 (fun h => by have := hb.2 h; cases this)
    repeat (first|(with_reducible first|apply X1|apply X2|apply X3|apply X4|apply X5|apply X6|apply X7|apply X8|apply X9|apply Y1|apply Y2|apply Y3|apply Y4|apply Y5|apply Y6|apply Y7|apply Y8|apply Y9)|((with_reducible apply q_block_other);decide)|((with_reducible first|apply e_end|apply d_end);(simp;exact Red.rfl))|((first|((with_reducible apply O1);rfl)|((with_reducible apply O2);rfl)|((with_reducible apply P1);rfl)|((with_reducible apply P2);rfl)|((with_reducible apply P3);rfl)|((with_reducible apply P4);rfl)|((with_reducible apply P5);rfl));(simp (disch:=omega);exact Red.rfl);exact Red.rfl;(focus (first|(simp;done)|omega|(simp;omega))))|((with_reducible first|apply Z7|apply Z8|apply Z9);(simp (disch:=omega);exact Red.rfl))|((with_reducible first|apply Z1|apply Z2|apply Z3|apply Z4|apply Z5|apply Z6);(simp (disch:=omega);exact Red.rfl))|((with_reducible first|apply W1|apply W2|apply W3);(simp (disch:=omega);exact Red.rfl))|((with_reducible apply P6);rfl;(simp (disch:=omega);exact Red.rfl);exact Red.rfl;(focus (first|(simp [pr];done)|(simp [pr];omega))))|((with_reducible apply P7);rfl;(simp (disch:=omega);exact Red.rfl);exact Red.rfl;(focus (simp [repast, pr, AOp.sem];done))))
    refine q_drop (.inr rfl) (by simp; exact Red.rfl) (by simp) ⟨rfl, rfl⟩
  | true =>
    have hv := hb.1 rfl
    repeat (first|(with_reducible first|apply X1|apply X2|apply X3|apply X4|apply X5|apply X6|apply X7|apply X8|apply X9|apply Y1|apply Y2|apply Y3|apply Y4|apply Y5|apply Y6|apply Y7|apply Y8|apply Y9)|((with_reducible apply q_block_other);decide)|((with_reducible first|apply e_end|apply d_end);(simp;exact Red.rfl))|((first|((with_reducible apply O1);rfl)|((with_reducible apply O2);rfl)|((with_reducible apply P1);rfl)|((with_reducible apply P2);rfl)|((with_reducible apply P3);rfl)|((with_reducible apply P4);rfl)|((with_reducible apply P5);rfl));(simp (disch:=omega);exact Red.rfl);exact Red.rfl;(focus (first|(simp;done)|omega|(simp;omega))))|((with_reducible first|apply Z7|apply Z8|apply Z9);(simp (disch:=omega);exact Red.rfl))|((with_reducible first|apply Z1|apply Z2|apply Z3|apply Z4|apply Z5|apply Z6);(simp (disch:=omega);exact Red.rfl))|((with_reducible first|apply W1|apply W2|apply W3);(simp (disch:=omega);exact Red.rfl))|((with_reducible apply P6);rfl;(simp (disch:=omega);exact Red.rfl);exact Red.rfl;(focus (first|(simp [pr];done)|(simp [pr];omega))))|((with_reducible apply P7);rfl;(simp (disch:=omega);exact Red.rfl);exact Red.rfl;(focus (simp [repast, pr, AOp.sem];done))))
    (with_reducible apply e_call); (simp; exact Red.rfl); exact kc _
    rintro _ _ ⟨rfl, b, rfl, hb2⟩
    cases b with
    | false =>
      obtain rfl := he2 hv (fun h => by have := hb2.2 h; cases this)
      repeat (first|(with_reducible first|apply X1|apply X2|apply X3|apply X4|apply X5|apply X6|apply X7|apply X8|apply X9|apply Y1|apply Y2|apply Y3|apply Y4|apply Y5|apply Y6|apply Y7|apply Y8|apply Y9)|((with_reducible apply q_block_other);decide)|((with_reducible first|apply e_end|apply d_end);(simp;exact Red.rfl))|((first|((with_reducible apply O1);rfl)|((with_reducible apply O2);rfl)|((with_reducible apply P1);rfl)|((with_reducible apply P2);rfl)|((with_reducible apply P3);rfl)|((with_reducible apply P4);rfl)|((with_reducible apply P5);rfl));(simp (disch:=omega);exact Red.rfl);exact Red.rfl;(focus (first|(simp;done)|omega|(simp;omega))))|((with_reducible first|apply Z7|apply Z8|apply Z9);(simp (disch:=omega);exact Red.rfl))|((with_reducible first|apply Z1|apply Z2|apply Z3|apply Z4|apply Z5|apply Z6);(simp (disch:=omega);exact Red.rfl))|((with_reducible first|apply W1|apply W2|apply W3);(simp (disch:=omega);exact Red.rfl))|((with_reducible apply P6);rfl;(simp (disch:=omega);exact Red.rfl);exact Red.rfl;(focus (first|(simp [pr];done)|(simp [pr];omega))))|((with_reducible apply P7);rfl;(simp (disch:=omega);exact Red.rfl);exact Red.rfl;(focus (simp [repast, pr, AOp.sem];done))))
      refine q_drop (.inr rfl) (by simp; exact Red.rfl) (by simp) ⟨rfl, rfl⟩
    | true =>
      obtain rfl := he3 hv (hb2.1 rfl)
      repeat (first|(with_reducible first|apply X1|apply X2|apply X3|apply X4|apply X5|apply X6|apply X7|apply X8|apply X9|apply Y1|apply Y2|apply Y3|apply Y4|apply Y5|apply Y6|apply Y7|apply Y8|apply Y9)|((with_reducible apply q_block_other);decide)|((with_reducible first|apply e_end|apply d_end);(simp;exact Red.rfl))|((first|((with_reducible apply O1);rfl)|((with_reducible apply O2);rfl)|((with_reducible apply P1);rfl)|((with_reducible apply P2);rfl)|((with_reducible apply P3);rfl)|((with_reducible apply P4);rfl)|((with_reducible apply P5);rfl));(simp (disch:=omega);exact Red.rfl);exact Red.rfl;(focus (first|(simp;done)|omega|(simp;omega))))|((with_reducible first|apply Z7|apply Z8|apply Z9);(simp (disch:=omega);exact Red.rfl))|((with_reducible first|apply Z1|apply Z2|apply Z3|apply Z4|apply Z5|apply Z6);(simp (disch:=omega);exact Red.rfl))|((with_reducible first|apply W1|apply W2|apply W3);(simp (disch:=omega);exact Red.rfl))|((with_reducible apply P6);rfl;(simp (disch:=omega);exact Red.rfl);exact Red.rfl;(focus (first|(simp [pr];done)|(simp [pr];omega))))|((with_reducible apply P7);rfl;(simp (disch:=omega);exact Red.rfl);exact Red.rfl;(focus (simp [repast, pr, AOp.sem];done))))
      refine q_drop (.inr rfl) (by simp; exact Red.rfl) (by simp) ⟨rfl, rfl⟩
theorem c_r3inside (H : Heap) (l : List Str) (s : Sl) (id off i : Nat) (ex : Bool) (hs : rd H id off (l.length * 9) = some (l.flatMap Str.av)) (hv : validL l) (hk : s.ok) (hi : i < l.length) :
    ACalls Try.prog F.ref03_inside [.agg [.slice id off l.length 9 ex], .agg s.av, .int .i64 i] H (fun v h' => v = .agg [.int .i64 (wiF (hd false s l) i), .int .i64 (wiF (hd true s l) i)] ∧ h' = H) := by
  have hid := rd_lt hs
  have h12 := hv.1
  have kh := fun G => c_r3heads (H ++ G) l s id off ex (by rw [rd_old _ hid]; exact hs) hv hk
  simp only [wiF]
  have hlA : (avR (r2 (hd false s l) (hd true s l)) (l.length + 1)).length = (l.length + 1) * 2 := (plain_r2 _ _).length _
  have g0 : ∀ v, v < l.length + 1 → ((avR (r2 (hd false s l) (hd true s l)) (l.length + 1)).drop (v * 2)).take 1 = [.int .i64 (hd false s l v)] := fun v hv => (plain_r2 (hd false s l) (hd true s l)).part (c := 0) (m := 1) hv (by omega)
  have g1 : ∀ v, v < l.length + 1 → ((avR (r2 (hd false s l) (hd true s l)) (l.length + 1)).drop (v * 2 + 1)).take 1 = [.int .i64 (hd true s l v)] := fun v hv => (plain_r2 (hd false s l) (hd true s l)).part (c := 1) (m := 1) hv (by omega)
  have pM : Plain (avR (r2 (hd false s l) (hd true s l)) (l.length + 1)) := (plain_r2 _ _).plain _
  have a0 := g0 i (by omega)
  have a1 := g1 i (by omega)
  have a2 := g0 (i + 1) (by omega)
  have a3 := g1 (i + 1) (by omega)
  have x1 : (if hd false s l i < hd false s l (i + 1) then hd false s l (i + 1) else hd false s l i) = max (hd false s l i) (hd false s l (i + 1)) := by omega
  have x2 : (if hd true s l i < hd true s l (i + 1) then hd true s l (i + 1) else hd true s l i) = max (hd true s l i) (hd true s l (i + 1)) := by omega
  generalize avR (r2 (hd false s l) (hd true s l)) (l.length + 1) = M at *
  generalize hd false s l = f at *
  generalize hd true s l = g at *
  simp only [sav_eq] at kh ⊢
  refine acalls_of ok_ref03_inside rfl fun hcl => ?_
  unfold ac_ref03_inside
  simp only [argsT, Nat.zero_add, Nat.reduceAdd]
  repeat (first|(with_reducible first|apply X1|apply X2|apply X3|apply X4|apply X5|apply X6|apply X7|apply X8|apply X9|apply Y1|apply Y2|apply Y3|apply Y4|apply Y5|apply Y6|apply Y7|apply Y8|apply Y9)|((with_reducible apply q_block_other);decide)|((with_reducible first|apply e_end|apply d_end);(simp;exact Red.rfl))|((first|((with_reducible apply O1);rfl)|((with_reducible apply O2);rfl)|((with_reducible apply P1);rfl)|((with_reducible apply P2);rfl)|((with_reducible apply P3);rfl)|((with_reducible apply P4);rfl)|((with_reducible apply P5);rfl));(simp (disch:=omega);exact Red.rfl);exact Red.rfl;(focus (first|(simp;done)|omega|(simp;omega))))|((with_reducible first|apply Z7|apply Z8|apply Z9);(simp (disch:=omega);exact Red.rfl))|((with_reducible first|apply Z1|apply Z2|apply Z3|apply Z4|apply Z5|apply Z6);(simp (disch:=omega);exact Red.rfl))|((with_reducible first|apply W1|apply W2|apply W3);(simp (disch:=omega);exact Red.rfl))|((with_reducible apply P6);rfl;(simp (disch:=omega);exact Red.rfl);exact Red.rfl;(focus (first|(simp [pr];done)|(simp [pr];omega))))|((with_reducible apply P7);rfl;(simp (disch:=omega);exact Red.rfl);exact Red.rfl;(focus (simp [repast, pr, AOp.sem];done))))
  (with_reducible apply e_call); (simp; exact Red.rfl); exact kh _
  rintro _ _ ⟨ex2, rfl, rfl⟩
  have w0 : i * 2 + 1 ≤ (l.length + 1) * 2 := by omega
  have w1 : i * 2 + 2 ≤ (l.length + 1) * 2 := by omega
  have w2 : (i + 1) * 2 + 1 ≤ (l.length + 1) * 2 := by omega
  have w3 : (i + 1) * 2 + 2 ≤ (l.length + 1) * 2 := by omega
  have u0 : i < l.length + 1 := by omega
  have u1 : (i : Int) < (l.length : Int) + 1 := by omega
  have u2 : i + 1 < l.length + 1 := by omega
  repeat (first|(with_reducible first|apply X1|apply X2|apply X3|apply X4|apply X5|apply X6|apply X7|apply X8|apply X9|apply Y1|apply Y2|apply Y3|apply Y4|apply Y5|apply Y6|apply Y7|apply Y8|apply Y9)|((with_reducible apply q_block_other);decide)|((with_reducible first|apply e_end|apply d_end);(simp;exact Red.rfl))|((first|((with_reducible apply O1);rfl)|((with_reducible apply O2);rfl)|((with_reducible apply P1);rfl)|((with_reducible apply P2);rfl)|((with_reducible apply P3);rfl)|((with_reducible apply P4);rfl)|((with_reducible apply P5);rfl));(simp (disch:=omega) [hlA, a0, a1, a2, a3, w0, w1, w2, w3, u0, u1, u2, hi, x1, x2];exact Red.rfl);exact Red.rfl;(focus (first|(simp;done)|omega|(simp;omega))))|((with_reducible first|apply Z7|apply Z8|apply Z9);(simp (disch:=omega) [hlA, a0, a1, a2, a3, w0, w1, w2, w3, u0, u1, u2, hi, x1, x2];exact Red.rfl))|((with_reducible first|apply Z1|apply Z2|apply Z3|apply Z4|apply Z5|apply Z6);(simp (disch:=omega) [hlA, a0, a1, a2, a3, w0, w1, w2, w3, u0, u1, u2, hi, x1, x2];exact Red.rfl))|((with_reducible first|apply W1|apply W2|apply W3);(simp (disch:=omega) [hlA, a0, a1, a2, a3, w0, w1, w2, w3, u0, u1, u2, hi, x1, x2];exact Red.rfl))|((with_reducible apply P6);rfl;(simp (disch:=omega) [hlA, a0, a1, a2, a3, w0, w1, w2, w3, u0, u1, u2, hi, x1, x2];exact Red.rfl);exact Red.rfl;(focus (first|(simp [pr];done)|(simp [pr];omega))))|((with_reducible apply P7);rfl;(simp (disch:=omega) [hlA, a0, a1, a2, a3, w0, w1, w2, w3, u0, u1, u2, hi, x1, x2];exact Red.rfl);exact Red.rfl;(focus (simp [repast, pr, AOp.sem];done))))
  refine q_drop (.inr rfl) (by simp; exact Red.rfl) (by simp) ⟨rfl, rfl⟩
theorem c_r3curve (H : Heap) (l : List Str) (id off : Nat) (ex : Bool) (i : Int) (hs : rd H id off (l.length * 9) = some (l.flatMap Str.av)) (hv : validL l) {b : Bool} (hb : b = true ↔ 0 ≤ i ∧ i < l.length ∧ (strAt l i.toNat).side ≠ 0) :
    ACalls Try.prog F.ref03_curve [.agg [.slice id off l.length 9 ex], .int .i64 i] H (fun v h' => v = .bool b ∧ h' = H) := by
  refine acalls_of ok_ref03_curve rfl fun hcl => ?_
  unfold ac_ref03_curve
  simp only [argsT, Nat.zero_add, Nat.reduceAdd]
  have hid := rd_lt hs
  have h12 := hv.1
  repeat (first|(with_reducible first|apply X1|apply X2|apply X3|apply X4|apply X5|apply X6|apply X7|apply X8|apply X9|apply Y1|apply Y2|apply Y3|apply Y4|apply Y5|apply Y6|apply Y7|apply Y8|apply Y9)|((with_reducible apply q_block_other);decide)|((with_reducible first|apply e_end|apply d_end);(simp;exact Red.rfl))|((first|((with_reducible apply O1);rfl)|((with_reducible apply O2);rfl)|((with_reducible apply P1);rfl)|((with_reducible apply P2);rfl)|((with_reducible apply P3);rfl)|((with_reducible apply P4);rfl)|((with_reducible apply P5);rfl));(simp (disch:=omega);exact Red.rfl);exact Red.rfl;(focus (first|(simp;done)|omega|(simp;omega))))|((with_reducible first|apply Z7|apply Z8|apply Z9);(simp (disch:=omega);exact Red.rfl))|((with_reducible first|apply Z1|apply Z2|apply Z3|apply Z4|apply Z5|apply Z6);(simp (disch:=omega);exact Red.rfl))|((with_reducible first|apply W1|apply W2|apply W3);(simp (disch:=omega);exact Red.rfl))|((with_reducible apply P6);rfl;(simp (disch:=omega);exact Red.rfl);exact Red.rfl;(focus (first|(simp [pr];done)|(simp [pr];omega))))|((with_reducible apply P7);rfl;(simp (disch:=omega);exact Red.rfl);exact Red.rfl;(focus (simp [repast, pr, AOp.sem];done))))
  by_cases hi : 0 ≤ i ∧ i < l.length
  · obtain ⟨k, rfl⟩ : ∃ k : Nat, i = k := ⟨i.toNat, by omega⟩
    have hk : k < l.length := by omega
    have hx : rd H id (off + k * 9 + 7) 1 = some [.int .u8 (strAt l k).side] := by
      rw [rd_sub (rd_row Str.av_length hs hk) (show 7 + 1 ≤ 9 by decide), strAt_eq hk]; rfl
    (with_reducible apply e_call); (simp; exact Red.rfl); exact c_r3within _ _ _ _ (b := true) (by simp only [true_iff]; omega)
    rintro _ _ ⟨rfl, rfl⟩
    repeat (first|(with_reducible first|apply X1|apply X2|apply X3|apply X4|apply X5|apply X6|apply X7|apply X8|apply X9|apply Y1|apply Y2|apply Y3|apply Y4|apply Y5|apply Y6|apply Y7|apply Y8|apply Y9)|((with_reducible apply q_block_other);decide)|((with_reducible first|apply e_end|apply d_end);(simp;exact Red.rfl))|((first|((with_reducible apply O1);rfl)|((with_reducible apply O2);rfl)|((with_reducible apply P1);rfl)|((with_reducible apply P2);rfl)|((with_reducible apply P3);rfl)|((with_reducible apply P4);rfl)|((with_reducible apply P5);rfl));(simp (disch:=omega) [rd_old _ hid, hx, hk];exact Red.rfl);exact Red.rfl;(focus (first|(simp;done)|omega|(simp;omega))))|((with_reducible first|apply Z7|apply Z8|apply Z9);(simp (disch:=omega) [rd_old _ hid, hx, hk];exact Red.rfl))|((with_reducible first|apply Z1|apply Z2|apply Z3|apply Z4|apply Z5|apply Z6);(simp (disch:=omega) [rd_old _ hid, hx, hk];exact Red.rfl))|((with_reducible first|apply W1|apply W2|apply W3);(simp (disch:=omega) [rd_old _ hid, hx, hk];exact Red.rfl))|((with_reducible apply P6);rfl;(simp (disch:=omega) [rd_old _ hid, hx, hk];exact Red.rfl);exact Red.rfl;(focus (first|(simp [pr];done)|(simp [pr];omega))))|((with_reducible apply P7);rfl;(simp (disch:=omega) [rd_old _ hid, hx, hk];exact Red.rfl);exact Red.rfl;(focus (simp [repast, pr, AOp.sem];done))))
    by_cases h0 : (strAt l k).side = 0
    · obtain rfl : b = false := by cases b with | false => rfl | true => exact absurd h0 (hb.1 rfl).2.2
      repeat (first|(with_reducible first|apply X1|apply X2|apply X3|apply X4|apply X5|apply X6|apply X7|apply X8|apply X9|apply Y1|apply Y2|apply Y3|apply Y4|apply Y5|apply Y6|apply Y7|apply Y8|apply Y9)|((with_reducible apply q_block_other);decide)|((with_reducible first|apply e_end|apply d_end);(simp;exact Red.rfl))|((first|((with_reducible apply O1);rfl)|((with_reducible apply O2);rfl)|((with_reducible apply P1);rfl)|((with_reducible apply P2);rfl)|((with_reducible apply P3);rfl)|((with_reducible apply P4);rfl)|((with_reducible apply P5);rfl));(simp (disch:=omega) [h0];exact Red.rfl);exact Red.rfl;(focus (first|(simp;done)|omega|(simp;omega))))|((with_reducible first|apply Z7|apply Z8|apply Z9);(simp (disch:=omega) [h0];exact Red.rfl))|((with_reducible first|apply Z1|apply Z2|apply Z3|apply Z4|apply Z5|apply Z6);(simp (disch:=omega) [h0];exact Red.rfl))|((with_reducible first|apply W1|apply W2|apply W3);(simp (disch:=omega) [h0];exact Red.rfl))|((with_reducible apply P6);rfl;(simp (disch:=omega) [h0];exact Red.rfl);exact Red.rfl;(focus (first|(simp [pr];done)|(simp [pr];omega))))|((with_reducible apply P7);rfl;(simp (disch:=omega) [h0];exact Red.rfl);exact Red.rfl;(focus (simp [repast, pr, AOp.sem];done))))
      refine q_drop (.inr rfl) (by simp; exact Red.rfl) (by simp) ⟨by simp [h0], rfl⟩
    · obtain rfl : b = true := hb.2 ⟨by omega, by omega, h0⟩
      repeat (first|(with_reducible first|apply X1|apply X2|apply X3|apply X4|apply X5|apply X6|apply X7|apply X8|apply X9|apply Y1|apply Y2|apply Y3|apply Y4|apply Y5|apply Y6|apply Y7|apply Y8|apply Y9)|((with_reducible apply q_block_other);decide)|((with_reducible first|apply e_end|apply d_end);(simp;exact Red.rfl))|((first|((with_reducible apply O1);rfl)|((with_reducible apply O2);rfl)|((with_reducible apply P1);rfl)|((with_reducible apply P2);rfl)|((with_reducible apply P3);rfl)|((with_reducible apply P4);rfl)|((with_reducible apply P5);rfl));(simp (disch:=omega) [h0];exact Red.rfl);exact Red.rfl;(focus (first|(simp;done)|omega|(simp;omega))))|((with_reducible first|apply Z7|apply Z8|apply Z9);(simp (disch:=omega) [h0];exact Red.rfl))|((with_reducible first|apply Z1|apply Z2|apply Z3|apply Z4|apply Z5|apply Z6);(simp (disch:=omega) [h0];exact Red.rfl))|((with_reducible first|apply W1|apply W2|apply W3);(simp (disch:=omega) [h0];exact Red.rfl))|((with_reducible apply P6);rfl;(simp (disch:=omega) [h0];exact Red.rfl);exact Red.rfl;(focus (first|(simp [pr];done)|(simp [pr];omega))))|((with_reducible apply P7);rfl;(simp (disch:=omega) [h0];exact Red.rfl);exact Red.rfl;(focus (simp [repast, pr, AOp.sem];done))))
      refine q_drop (.inr rfl) (by simp; exact Red.rfl) (by simp) ⟨by simp [h0], rfl⟩
  · obtain rfl : b = false := by cases b with | false => rfl | true => exact absurd ⟨(hb.1 rfl).1, (hb.1 rfl).2.1⟩ hi
    (with_reducible apply e_call); (simp; exact Red.rfl); exact c_r3within _ _ _ _ (b := false) (by simp only [Bool.false_eq_true, false_iff]; omega)
    rintro _ _ ⟨rfl, rfl⟩
    repeat (first|(with_reducible first|apply X1|apply X2|apply X3|apply X4|apply X5|apply X6|apply X7|apply X8|apply X9|apply Y1|apply Y2|apply Y3|apply Y4|apply Y5|apply Y6|apply Y7|apply Y8|apply Y9)|((with_reducible apply q_block_other);decide)|((with_reducible first|apply e_end|apply d_end);(simp;exact Red.rfl))|((first|((with_reducible apply O1);rfl)|((with_reducible apply O2);rfl)|((with_reducible apply P1);rfl)|((with_reducible apply P2);rfl)|((with_reducible apply P3);rfl)|((with_reducible apply P4);rfl)|((with_reducible apply P5);rfl));(simp (disch:=omega);exact Red.rfl);exact Red.rfl;(focus (first|(simp;done)|omega|(simp;omega))))|((with_reducible first|apply Z7|apply Z8|apply Z9);(simp (disch:=omega);exact Red.rfl))|((with_reducible first|apply Z1|apply Z2|apply Z3|apply Z4|apply Z5|apply Z6);(simp (disch:=omega);exact Red.rfl))|((with_reducible first|apply W1|apply W2|apply W3);(simp (disch:=omega);exact Red.rfl))|((with_reducible apply P6);rfl;(simp (disch:=omega);exact Red.rfl);exact Red.rfl;(focus (first|(simp [pr];done)|(simp [pr];omega))))|((with_reducible apply P7);rfl;(simp (disch:=omega);exact Red.rfl);exact Red.rfl;(focus (simp [repast, pr, AOp.sem];done))))
    refine q_drop (.inr rfl) (by simp; exact Red.rfl) (by simp) ⟨rfl, rfl⟩
theorem c_r3height (H : Heap) (l : List Str) (s : Sl) (id off i : Nat) (ex : Bool) (hs : rd H id off (l.length * 9) = some (l.flatMap Str.av)) (hv : validL l) (hk : s.ok) (hi : i < l.length) (hc : (strAt l i).side ≠ 0) :
    ACalls Try.prog F.ref03_height [.agg [.slice id off l.length 9 ex], .agg s.av, .int .i64 i] H (fun v h' => v = .agg [.int .i64 (htF (wiF (hd false s l) i) (strAt l i).rHi s.t1), .int .i64 (htF (wiF (hd true s l) i) (strAt l i).rLo s.t2)] ∧ h' = H) := by
  have hid := rd_lt hs
  have h12 := hv.1
  have hR := curve_rad hv hi hc
  have wb0 := wi_bd hv hk false hi
  have wb1 := wi_bd hv hk true hi
  have ki := fun G => c_r3inside (H ++ G) l s id off i ex (by rw [rd_old _ hid]; exact hs) hv hk hi
  have hx : rd H id (off + i * 9 + 5) 2 = some [.int .i64 (strAt l i).rLo, .int .i64 (strAt l i).rHi] := by
    rw [rd_sub (rd_row Str.av_length hs hi) (show 5 + 2 ≤ 9 by decide), strAt_eq hi]; rfl
  obtain ⟨k0, k1, k2, k3, k4, k5⟩ := hk
  generalize wiF (hd false s l) i = f at *
  generalize wiF (hd true s l) i = g at *
  generalize (strAt l i).rLo = rl at *
  generalize (strAt l i).rHi = rh at *
  simp only [sav_eq] at ki ⊢
  have q0 : (1200 * f).tdiv (10 * rh) = 1200 * f / (10 * rh) := Int.tdiv_eq_ediv_of_nonneg (by omega)
  have q1 : (1200 * g).tdiv (10 * rl) = 1200 * g / (10 * rl) := Int.tdiv_eq_ediv_of_nonneg (by omega)
  have q2 := Int.ediv_le_self (a := 1200 * f) (10 * rh) (by omega)
  have q3 := Int.ediv_le_self (a := 1200 * g) (10 * rl) (by omega)
  have q4 := Int.ediv_nonneg (a := 1200 * f) (b := 10 * rh) (by omega) (by omega)
  have q5 := Int.ediv_nonneg (a := 1200 * g) (b := 10 * rl) (by omega) (by omega)
  simp only [htF]
  refine acalls_of ok_ref03_height rfl fun hcl => ?_
  unfold ac_ref03_height
  simp only [argsT, Nat.zero_add, Nat.reduceAdd]
  repeat (first|(with_reducible first|apply X1|apply X2|apply X3|apply X4|apply X5|apply X6|apply X7|apply X8|apply X9|apply Y1|apply Y2|apply Y3|apply Y4|apply Y5|apply Y6|apply Y7|apply Y8|apply Y9)|((with_reducible apply q_block_other);decide)|((with_reducible first|apply e_end|apply d_end);(simp;exact Red.rfl))|((first|((with_reducible apply O1);rfl)|((with_reducible apply O2);rfl)|((with_reducible apply P1);rfl)|((with_reducible apply P2);rfl)|((with_reducible apply P3);rfl)|((with_reducible apply P4);rfl)|((with_reducible apply P5);rfl));(simp (disch:=omega);exact Red.rfl);exact Red.rfl;(focus (first|(simp;done)|omega|(simp;omega))))|((with_reducible first|apply Z7|apply Z8|apply Z9);(simp (disch:=omega);exact Red.rfl))|((with_reducible first|apply Z1|apply Z2|apply Z3|apply Z4|apply Z5|apply Z6);(simp (disch:=omega);exact Red.rfl))|((with_reducible first|apply W1|apply W2|apply W3);(simp (disch:=omega);exact Red.rfl))|((with_reducible apply P6);rfl;(simp (disch:=omega);exact Red.rfl);exact Red.rfl;(focus (first|(simp [pr];done)|(simp [pr];omega))))|((with_reducible apply P7);rfl;(simp (disch:=omega);exact Red.rfl);exact Red.rfl;(focus (simp [repast, pr, AOp.sem];done))))
  (with_reducible apply d_call); (simp; exact Red.rfl); exact ki _; (focus (first | (simp; done) | (simp; omega)))
  repeat (first|(with_reducible first|apply X1|apply X2|apply X3|apply X4|apply X5|apply X6|apply X7|apply X8|apply X9|apply Y1|apply Y2|apply Y3|apply Y4|apply Y5|apply Y6|apply Y7|apply Y8|apply Y9)|((with_reducible apply q_block_other);decide)|((with_reducible first|apply e_end|apply d_end);(simp;exact Red.rfl))|((first|((with_reducible apply O1);rfl)|((with_reducible apply O2);rfl)|((with_reducible apply P1);rfl)|((with_reducible apply P2);rfl)|((with_reducible apply P3);rfl)|((with_reducible apply P4);rfl)|((with_reducible apply P5);rfl));(simp (disch:=omega) [rd_old _ hid, hx, hi];exact Red.rfl);exact Red.rfl;(focus (first|(simp;done)|omega|(simp;omega))))|((with_reducible first|apply Z7|apply Z8|apply Z9);(simp (disch:=omega) [rd_old _ hid, hx, hi];exact Red.rfl))|((with_reducible first|apply Z1|apply Z2|apply Z3|apply Z4|apply Z5|apply Z6);(simp (disch:=omega) [rd_old _ hid, hx, hi];exact Red.rfl))|((with_reducible first|apply W1|apply W2|apply W3);(simp (disch:=omega) [rd_old _ hid, hx, hi];exact Red.rfl))|((with_reducible apply P6);rfl;(simp (disch:=omega) [rd_old _ hid, hx, hi];exact Red.rfl);exact Red.rfl;(focus (first|(simp [pr];done)|(simp [pr];omega))))|((with_reducible apply P7);rfl;(simp (disch:=omega) [rd_old _ hid, hx, hi];exact Red.rfl);exact Red.rfl;(focus (simp [repast, pr, AOp.sem];done))))
  (with_reducible apply d_do_); rfl; rfl; (simp (disch := omega) [rd_old _ hid, hx]; exact Red.rfl); exact Red.rfl
  · (first | (simp; done) | omega | (simp; omega))
  · (first | (simp; done) | omega | (simp; omega))
  · (first | (simp; done) | omega | (simp; omega))
  · simp [recheck, pr, AOp.sem, rd_old _ hid, hx]
  simp only [St.put]
  (with_reducible apply d_do_); rfl; rfl; (simp (disch := omega) [rd_old _ hid, hx]; exact Red.rfl); exact Red.rfl
  · (first | (simp; done) | omega | (simp; omega))
  · (first | (simp; done) | omega | (simp; omega))
  · (first | (simp; done) | omega | (simp; omega))
  · simp [recheck, pr, AOp.sem, rd_old _ hid, hx]
  simp only [St.put]
  repeat (first|(with_reducible first|apply X1|apply X2|apply X3|apply X4|apply X5|apply X6|apply X7|apply X8|apply X9|apply Y1|apply Y2|apply Y3|apply Y4|apply Y5|apply Y6|apply Y7|apply Y8|apply Y9)|((with_reducible apply q_block_other);decide)|((with_reducible first|apply e_end|apply d_end);(simp;exact Red.rfl))|((first|((with_reducible apply O1);rfl)|((with_reducible apply O2);rfl)|((with_reducible apply P1);rfl)|((with_reducible apply P2);rfl)|((with_reducible apply P3);rfl)|((with_reducible apply P4);rfl)|((with_reducible apply P5);rfl));(simp (disch:=omega) [q0, q1];exact Red.rfl);exact Red.rfl;(focus (first|(simp;done)|omega|(simp;omega))))|((with_reducible first|apply Z7|apply Z8|apply Z9);(simp (disch:=omega) [q0, q1];exact Red.rfl))|((with_reducible first|apply Z1|apply Z2|apply Z3|apply Z4|apply Z5|apply Z6);(simp (disch:=omega) [q0, q1];exact Red.rfl))|((with_reducible first|apply W1|apply W2|apply W3);(simp (disch:=omega) [q0, q1];exact Red.rfl))|((with_reducible apply P6);rfl;(simp (disch:=omega) [q0, q1];exact Red.rfl);exact Red.rfl;(focus (first|(simp [pr];done)|(simp [pr];omega))))|((with_reducible apply P7);rfl;(simp (disch:=omega) [q0, q1];exact Red.rfl);exact Red.rfl;(focus (simp [repast, pr, AOp.sem];done))))
  refine q_drop (.inr rfl) (by simp; exact Red.rfl) (by simp) ⟨rfl, rfl⟩
end Go.Proofs
