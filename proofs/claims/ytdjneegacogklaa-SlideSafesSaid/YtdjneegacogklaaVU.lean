/- Several texts as one. -/
import Derived.Test.YtdjneegacogklaaSC
import Derived.Test.YtdjneegacogklaaXA
import Derived.Test.YtdjneegacogklaaDD
import Derived.Test.YtdjneegacogklaaTB
/- The reference's speeds. -/
namespace Go.Proofs
open Go.Abs
attribute [local simp] AOp.den AOpd.ev lk cellsOf rd_new rd_new0 rd_zero rd_succ wr_new wr_new0 wr_zero wr_succ splice fillA binA scal sliceCells List.length_append argsT AV.sc scL AObj.sc resV getAll AR.get AOp.slots opdSlots opdsSlots partSlots eqAt at_new0 at_new set_new0 set_new wrap64
set_option linter.unusedSimpArgs false
set_option linter.unusedVariables false
theorem c_slow (H : Heap) (x : Int) (hx : 0 ≤ x ∧ x ≤ 300000) : ACalls Try.prog F.ref03_slow [.int .i64 x] H (fun v h' => v = .int .i64 (dnV x) ∧ h' = H) := by
  have fin : ∀ n : Int, IsDown x n → n = dnV x := fun n h => down_uniq h (dnV_is hx.1)
  refine acalls_of ok_ref03_slow rfl fun hcl => ?_
  unfold ac_ref03_slow
  simp only [argsT, Nat.zero_add, Nat.reduceAdd]
  repeat (first|(with_reducible first|apply X1|apply X2|apply X6|apply X8)|((with_reducible apply e_end);(simp;exact Red.rfl))|((with_reducible apply O1);rfl;(simp (disch:=omega);exact Red.rfl);exact Red.rfl;(focus (first|(simp;done)|omega|(simp;omega)))))
  have st : 1962 * x < 10 * (((0 : Int) + 2 ^ 16) * (0 + 2 ^ 16)) := by
    have e : ((0 : Int) + 2 ^ 16) = 65536 := by decide
    rw [e]; omega
  refine e_loop (ι := { y : Nat × Int // y.1 ≤ 16 ∧ 0 ≤ y.2 ∧ 10 * (y.2 * y.2) ≤ 1962 * x ∧ 1962 * x < 10 * ((y.2 + 2 ^ y.1) * (y.2 + 2 ^ y.1)) })
    (fun y => [(0, .int .i64 x), (3, .int .i64 y.1.2), (4, .int .i64 (if y.1.1 = 0 then 0 else 2 ^ (y.1.1 - 1)))]) (fun _ => H) (fun y => y.1.1) ⟨(16, 0), by decide, by decide, by simp only [Int.mul_zero]; omega, st⟩ ?_ ?_
  · exact .inl rfl
  · rintro ⟨⟨k, n⟩, hk, h0, h1, h2⟩
    dsimp only at hk h0 h1 h2 ⊢
    rcases k with _ | k
    · have hd : IsDown x n := ⟨h0, h1, by simpa using h2⟩
      have := fin n hd
      simp only [if_true]
      repeat (first|(with_reducible first|apply X1|apply X2|apply X3|apply X4|apply X8|apply Y1|apply Y4|apply Y6)|((with_reducible apply e_end);(simp;exact Red.rfl))|((with_reducible apply O1);rfl;(simp (disch:=omega);exact Red.rfl);exact Red.rfl;(focus (first|(simp;done)|omega|(simp;omega))))|((with_reducible apply W3);(simp (disch:=omega);exact Red.rfl)))
      exact q_stay (.inr rfl) (by simp; exact Red.rfl) ⟨by rw [this], rfl⟩
    · have hb0 : ¬ k + 1 = 0 := by omega
      simp only [hb0, if_false, Nat.add_sub_cancel]
      obtain ⟨b, hb⟩ : ∃ b : Int, (2 : Int) ^ k = b := ⟨_, rfl⟩
      have hb1 : 1 ≤ b := by rw [← hb]; exact Int.pow_pos (by decide)
      have hb2 : b ≤ 32768 := by
        rw [← hb]
        exact (show ∀ j : Nat, j ≤ 15 → (2 : Int) ^ j ≤ 32768 by decide) k (by omega)
      have hb3 : (2 : Int) ^ (k + 1) = b * 2 := by rw [Int.pow_succ, hb]
      have hb4 : b.tdiv 2 = if k = 0 then 0 else 2 ^ (k - 1) := by
        rw [← hb]
        rcases k with _ | k
        · rfl
        · rw [Int.pow_succ]; simp
      have hq : b.tdiv 2 = b / 2 := Int.tdiv_eq_ediv_of_nonneg (by omega)
      have hw : IntKind.i64.wrap (b.tdiv 2) = if k = 0 then 0 else 2 ^ (k - 1) := by rw [wrap64 (x := b.tdiv 2) (by omega) (by omega), hb4]
      rw [hb3] at h2
      rw [hb]
      have hn := sq_ge h0
      have m1 : 0 ≤ (n + b) * (n + b) := Int.mul_nonneg (by omega) (by omega)
      have m2 : (n + b) * (n + b) ≤ 60000000 * 60000000 := Int.mul_le_mul (by omega) (by omega) (by omega) (by omega)
      have e1 : 10 * (n + b) * (n + b) = 10 * ((n + b) * (n + b)) := Int.mul_assoc _ _ _
      have e2 : n + b * 2 = n + b + b := by omega
      rw [e2] at h2
      by_cases hc : 10 * ((n + b) * (n + b)) ≤ 1962 * x
      · repeat (first|(with_reducible first|apply X1|apply X2|apply X5|apply X6|apply X8|apply Y2)|((with_reducible apply e_end);(simp;exact Red.rfl))|((with_reducible apply O1);rfl;(simp (disch:=omega) [e1, hc, show 0 < b by omega, hw];exact Red.rfl);exact Red.rfl;(focus (first|(simp;done)|omega|(simp;omega))))|((with_reducible apply Z9);(simp (disch:=omega) [e1, hc, show 0 < b by omega, hw];exact Red.rfl)))
        exact q_again ⟨(k, n + b), by dsimp only; omega, by dsimp only; omega, hc, by dsimp only; rw [hb]; exact h2⟩ (by dsimp only; omega) (.inl (by simp))
      · repeat (first|(with_reducible first|apply X1|apply X2|apply X5|apply X6|apply X8|apply Y2)|((with_reducible apply e_end);(simp;exact Red.rfl))|((with_reducible apply O1);rfl;(simp (disch:=omega) [e1, hc, show 0 < b by omega, hw];exact Red.rfl);exact Red.rfl;(focus (first|(simp;done)|omega|(simp;omega))))|((with_reducible apply Z9);(simp (disch:=omega) [e1, hc, show 0 < b by omega, hw];exact Red.rfl))|((with_reducible apply W3);(simp (disch:=omega) [e1, hc, show 0 < b by omega, hw];exact Red.rfl)))
        exact q_again ⟨(k, n), by dsimp only; omega, h0, h1, by dsimp only; rw [hb]; omega⟩ (by dsimp only; omega) (.inl (by simp))
end Go.Proofs
/- The reference's heads. -/
namespace Go.Proofs
open Go.Abs
attribute [local simp] AOp.den AOpd.ev lk cellsOf rd_new rd_new0 rd_zero rd_succ wr_new wr_new0 wr_zero wr_succ splice fillA binA scal sliceCells List.length_append argsT AV.sc scL AObj.sc resV getAll AR.get AOp.slots opdSlots opdsSlots partSlots eqAt at_new0 at_new set_new0 set_new wrap64
set_option linter.unusedSimpArgs false
set_option linter.unusedVariables false
theorem e_appL {P : Program} {l : List AO} {K : St → Prop} {t : List (Nat × AV)} {h A G : Heap} {d sz bytes n m : Nat} {v w : AV} {cs new : List AV} {x y : AOpd} (he : h = A ++ G)
    (hx : Red (x.ev t) v) (hy : Red (y.ev t) w) (hl : LAt h sz v cs n) (hvi : ∀ i, isId v i → A.length ≤ i) (hw : sliceCells h sz w = some (m, new)) (hsc : new.all scal = true) (hb : (n + m) * bytes ≤ 140737488355328)
    (hn : ∀ (G' : Heap) (v' : AV), LAt (A ++ G') sz v' (cs ++ new) (n + m) → (∀ i, isId v' i → A.length ≤ i) → EOps P l K ((d, v') :: t) (A ++ G')) :
    EOps P (⟨some d, .append x y sz bytes, none⟩ :: l) K t h := by
  refine e_app hx hy hl hw hsc hb fun h2 e1 e2 e3 => ?_
  have hA : A.length ≤ h.length := by rw [he]; simp
  obtain ⟨G2, rfl⟩ := ext_of (A := A) (h' := h2) (by omega) (by
    intro k hk
    rw [e2 k (by omega) (fun hid => by have := hvi k hid; omega), he, List.getElem?_append_left hk])
  refine hn G2 _ e3 (fun i hi => ?_)
  have : h.length = i := hi
  omega
theorem le_lsL {H G : Heap} {n sz : Nat} {cs : List AV} {v : AV} (hcs : Plain cs) (hl : LAt (H ++ G) sz v cs n) (h0 : 0 < n) (hb : ∀ i, isId v i → H.length ≤ i) :
    ∃ ex, Le H ⟨[(0, v)], H ++ G⟩ ⟨[(0, .slice H.length 0 n sz ex)], H ++ [.cells cs true]⟩ := by
  obtain ⟨hc, ⟨rfl, h1⟩ | ⟨id, ex, rfl, hh⟩⟩ := hl
  · omega
  · have h1 := hb id rfl
    rw [List.getElem?_append_right h1] at hh
    refine ⟨ex, le_plain [id - H.length] [AObj.cells cs true] (by simp) (by simp [hh]) (by intro o ho; simp only [List.mem_singleton] at ho; subst ho; exact hcs.o true) ?_⟩
    intro x hx
    simp only [List.mem_singleton] at hx
    subst hx
    refine ⟨by simp [AV.sc], ?_⟩
    simp only [lk, if_true, AV.ren]
    congr 2
    simp [sh]; omega
theorem LAt.swap3 {H G : Heap} {c0 c1 a b : AObj} {sz n : Nat} {v : AV} {cs : List AV} (h : LAt (H ++ c0 :: c1 :: a :: G) sz v cs n) (hvi : ∀ i, isId v i → H.length + 3 ≤ i) : LAt (H ++ c0 :: c1 :: b :: G) sz v cs n :=
  h.keep fun i hi => by
    have := hvi i hi
    obtain ⟨j, rfl⟩ : ∃ j, i = H.length + 3 + j := ⟨i - (H.length + 3), by omega⟩
    rw [List.getElem?_append_right (by omega), List.getElem?_append_right (by omega), show H.length + 3 + j - H.length = j + 3 by omega]
    rfl
theorem slice_end2 {L h : Heap} {id : Nat} {x y : AV} {b ex : Bool} (e1 : h = L ++ [.cells [x, y] b]) (e2 : id = L.length) : sliceCells h 2 (.slice id 0 1 2 ex) = some (1, [x, y]) := by
  subst e1 e2
  simp [sliceCells, rd]
set_option maxHeartbeats 2000000 in
theorem c_r3heads (H : Heap) (l : List Str) (s : Sl) (id off : Nat) (ex : Bool) (hs : rd H id off (l.length * 9) = some (l.flatMap Str.av)) (hv : validL l) (hk : s.ok) :
    ACalls Try.prog F.ref03_heads [.agg [.slice id off l.length 9 ex], .agg s.av] H (fun v h' => ∃ ex2, v = .slice H.length 0 (l.length + 1) 2 ex2 ∧ h' = H ++ [.cells (avR (r2 (hd false s l) (hd true s l)) (l.length + 1)) true]) := by
  have hid := rd_lt hs
  have h12 := hv.1
  have b0 := fun {i : Nat} (hi : i ≤ l.length) => hd_bd hv hk false hi
  have b1 := fun {i : Nat} (hi : i ≤ l.length) => hd_bd hv hk true hi
  have n0 : ∀ i, hd false s l (i + 1) = nx (hd false s l i) s.d2 (strAt l i).lHi (strAt l i).fLo s.r2 s.w1 := fun _ => rfl
  have n1 : ∀ i, hd true s l (i + 1) = nx (hd true s l i) s.d1 (strAt l i).lLo (strAt l i).fHi s.r1 s.w2 := fun _ => rfl
  have z0 : hd false s l 0 = s.s1 := rfl
  have z1 : hd true s l 0 = s.s2 := rfl
  obtain ⟨k0, k1, k2, k3, k4, k5⟩ := hk
  generalize hd false s l = f at *
  generalize hd true s l = g at *
  obtain ⟨c, s1, s2, r1', r2', d1, d2, w1, w2, t1, t2⟩ := s
  simp only at *
  simp only [Sl.av]
  refine acalls_of ok_ref03_heads rfl fun hcl => ?_
  unfold ac_ref03_heads
  simp only [argsT, Nat.zero_add, Nat.reduceAdd]
  repeat (first|(with_reducible first|apply X1|apply X2|apply X6|apply X8)|((with_reducible apply e_end);(simp;exact Red.rfl))|((first|((with_reducible apply O1);rfl)|((with_reducible apply O2);rfl));(simp (disch:=omega);exact Red.rfl);exact Red.rfl;(focus (first|(simp;done)|omega|(simp;omega)))))
  refine e_loop (ι := { x : Nat × AV × Heap // x.1 ≤ l.length ∧ LAt (H ++ (.cells [.slice id off l.length 9 ex] true :: .cells [.int .u8 c, .int .i64 s1, .int .i64 s2, .int .i64 r1', .int .i64 r2', .int .i64 d1, .int .i64 d2, .int .i64 w1, .int .i64 w2, .int .i64 t1, .int .i64 t2] true :: .cells [.int .i64 (f x.1), .int .i64 (g x.1)] true :: x.2.2)) 2 x.2.1 (avR (r2 f g) (x.1 + 1)) (x.1 + 1) ∧ ∀ i, isId x.2.1 i → H.length + 3 ≤ i })
    (fun x => [(2, .ptr H.length 0), (3, .ptr (H.length + 1) 0), (5, .ptr (H.length + 2) 0), (6, x.1.2.1), (7, .int .i64 x.1.1)])
    (fun x => H ++ (.cells [.slice id off l.length 9 ex] true :: .cells [.int .u8 c, .int .i64 s1, .int .i64 s2, .int .i64 r1', .int .i64 r2', .int .i64 d1, .int .i64 d2, .int .i64 w1, .int .i64 w2, .int .i64 t1, .int .i64 t2] true :: .cells [.int .i64 (f x.1.1), .int .i64 (g x.1.1)] true :: x.1.2.2)) (fun x => l.length - x.1.1) ⟨(0, .slice (H.length + 3) 0 1 2 true, [.cells [.int .i64 s1, .int .i64 s2] true]), by simp, ?_, ?_⟩ ?_ ?_
  · dsimp only
    refine LAt.of (by simp [at_new, Nat.add_assoc, avR_succ, avR_zero, r2, z0, z1]) (by rw [(plain_r2 f g).length]) true
  · intro i hi
    have : H.length + 3 = i := hi
    omega
  · dsimp only
    exact .inl (by simp [z0, z1])
  · rintro ⟨⟨i, v, G⟩, hi, hv2, hvi⟩
    dsimp only at hi hv2 hvi ⊢
    by_cases hlt : i < l.length
    · have hlt2 : (i : Int) < l.length := by omega
      have hx := rd_row Str.av_length hs hlt
      have ho := str_ok hv hlt
      have hst := strAt_eq hlt
      have n0 := n0 i
      have n1 := n1 i
      rw [hst] at n0 n1 ho
      generalize l[i] = s at hx ho n0 n1
      obtain ⟨a1, a2, a3, a4, a5, a6, a7, a8, a9⟩ := s
      simp only [Str.av] at hx
      simp only [Str.ok] at ho
      simp only at n0 n1
      have b00 := b0 hi
      have b10 := b1 hi
      repeat (first|(with_reducible first|apply X1|apply X2|apply X5|apply X6|apply X8|apply Y9)|((with_reducible apply e_end);(simp;exact Red.rfl))|((first|((with_reducible apply O1);rfl)|((with_reducible apply O2);rfl)|((with_reducible apply P1);rfl)|((with_reducible apply P2);rfl));(simp (disch:=omega) [hlt, hlt2, rd_old _ hid, hx];exact Red.rfl);exact Red.rfl;(focus (first|(simp;done)|omega|(simp;omega))))|((with_reducible apply Z9);(simp (disch:=omega) [hlt, hlt2, rd_old _ hid, hx];exact Red.rfl)))
      (with_reducible apply d_call); (simp; exact Red.rfl); exact c3_Next _ _ _ _ _ _ _ (by omega) (by omega) (by omega) (by omega) (by omega) (by omega); (focus (first | (simp; done) | (simp; omega)))
      repeat (first|((with_reducible apply P1);rfl;(simp (disch:=omega);exact Red.rfl);exact Red.rfl;(focus (first|(simp;done)|omega|(simp;omega))))|((with_reducible apply P6);rfl;(simp (disch:=omega);exact Red.rfl);exact Red.rfl;(focus (first|(simp [pr];done)|(simp [pr];omega)))))
      (with_reducible apply d_call); (simp; exact Red.rfl); exact c3_Next _ _ _ _ _ _ _ (by omega) (by omega) (by omega) (by omega) (by omega) (by omega); (focus (first | (simp; done) | (simp; omega)))
      rw [← n0, ← n1]
      repeat (first|(with_reducible first|apply X2|apply X8)|((with_reducible apply d_end);(simp;exact Red.rfl))|((first|((with_reducible apply O1);rfl)|((with_reducible apply P1);rfl)|((with_reducible apply P4);rfl));(simp (disch:=omega);exact Red.rfl);exact Red.rfl;(focus (first|(simp;done)|omega|(simp;omega)))))
      have hv3 := (hv2.swap3 (b := .cells [.int .i64 (f (i + 1)), .int .i64 (g (i + 1))] true) hvi).app [.cells [.int .i64 a1, .int .i64 a2, .int .i64 a3, .int .i64 a4, .int .i64 a5, .int .i64 a6, .int .i64 a7, .int .u8 a8, .int .i64 a9] true, .cells [.int .i64 (f (i + 1)), .int .i64 (g (i + 1))] true]
      have e : avR (r2 f g) (i + 1) ++ [.int .i64 (f (i + 1)), .int .i64 (g (i + 1))] = avR (r2 f g) (i + 1 + 1) := by rw [avR_succ _ (i + 1)]; rfl
      refine e_appL (A := H ++ [.cells [.slice id off l.length 9 ex] true, .cells [.int .u8 c, .int .i64 s1, .int .i64 s2, .int .i64 r1', .int .i64 r2', .int .i64 d1, .int .i64 d2, .int .i64 w1, .int .i64 w2, .int .i64 t1, .int .i64 t2] true, .cells [.int .i64 (f (i + 1)), .int .i64 (g (i + 1))] true]) (G := G ++ [.cells [.int .i64 a1, .int .i64 a2, .int .i64 a3, .int .i64 a4, .int .i64 a5, .int .i64 a6, .int .i64 a7, .int .u8 a8, .int .i64 a9] true, .cells [.int .i64 (f (i + 1)), .int .i64 (g (i + 1))] true]) (cs := avR (r2 f g) (i + 1)) (n := i + 1) (m := 1) (new := [.int .i64 (f (i + 1)), .int .i64 (g (i + 1))]) (by simp) (by simp; exact Red.rfl) (by simp; exact Red.rfl) (by simpa using hv3) (fun k hk => by have := hvi k hk; simp; omega) (slice_end2 (b := true) (L := H ++ .cells [.slice id off l.length 9 ex] true :: .cells [.int .u8 c, .int .i64 s1, .int .i64 s2, .int .i64 r1', .int .i64 r2', .int .i64 d1, .int .i64 d2, .int .i64 w1, .int .i64 w2, .int .i64 t1, .int .i64 t2] true :: .cells [.int .i64 (f (i + 1)), .int .i64 (g (i + 1))] true :: (G ++ [.cells [.int .i64 a1, .int .i64 a2, .int .i64 a3, .int .i64 a4, .int .i64 a5, .int .i64 a6, .int .i64 a7, .int .u8 a8, .int .i64 a9] true])) (by simp) (by simp <;> omega)) (by simp) (by omega) ?_
      intro G2 v2 e3 e4
      simp only [List.append_assoc, List.cons_append, List.nil_append] at e3 e4 ⊢
      rw [e] at e3
      repeat (first|(with_reducible first|apply X2|apply X8|apply Y2)|((with_reducible apply e_end);(simp;exact Red.rfl))|((with_reducible apply O1);rfl;(simp (disch:=omega);exact Red.rfl);exact Red.rfl;(focus (first|(simp;done)|omega|(simp;omega)))))
      refine q_again ⟨(i + 1, v2, G2), by dsimp only; omega, e3, fun k hk => by have := e4 k hk; simpa using this⟩ (by dsimp only; omega) (.inl (by simp))
    · have hlt2 : ¬ (i : Int) < l.length := by omega
      obtain rfl : i = l.length := by omega
      repeat (first|(with_reducible first|apply X1|apply X2|apply X3|apply X4|apply X8|apply Y1|apply Y4|apply Y6)|((with_reducible apply e_end);(simp;exact Red.rfl))|((with_reducible apply O1);rfl;(simp (disch:=omega) [hlt2];exact Red.rfl);exact Red.rfl;(focus (first|(simp;done)|omega|(simp;omega))))|((with_reducible apply W3);(simp (disch:=omega) [hlt2];exact Red.rfl)))
      obtain ⟨ex2, hle⟩ := le_lsL (H := H) ((plain_r2 f g).plain (l.length + 1)) hv2 (by omega) (fun i hi => by have := hvi i hi; omega)
      exact q_post (v' := .slice H.length 0 (l.length + 1) 2 ex2) (.inr rfl) (by simp; exact Red.rfl) hle ⟨ex2, rfl, rfl⟩
end Go.Proofs
/- What the reference tells of sleds. -/
namespace Go.Proofs
open Go.Abs
attribute [local simp] AOp.den AOpd.ev lk cellsOf rd_new rd_new0 rd_zero rd_succ wr_new wr_new0 wr_zero wr_succ splice fillA binA scal sliceCells List.length_append argsT AV.sc scL AObj.sc resV getAll AR.get AOp.slots opdSlots opdsSlots partSlots eqAt at_new0 at_new set_new0 set_new wrap64
set_option linter.unusedSimpArgs false
set_option linter.unusedVariables false
theorem sav_eq (s : Sl) : s.av = [.int .u8 s.c, .int .i64 s.s1, .int .i64 s.s2, .int .i64 s.r1, .int .i64 s.r2, .int .i64 s.d1, .int .i64 s.d2, .int .i64 s.w1, .int .i64 s.w2, .int .i64 s.t1, .int .i64 s.t2] := rfl
theorem c_r3Check (H : Heap) (s : Sl) (hc : 0 ≤ s.c ∧ s.c ≤ 255) : ACalls Try.prog F.ref03_Check [.agg s.av] H (fun v h' => h' = H ∧ ∃ b : Bool, v = .int .i64 (if b = true then 0 else 30) ∧ (b = true ↔ s.ok)) := by
  have kS := fun G => c_rSled G s hc
  simp only [sav_eq] at kS ⊢
  refine acalls_of ok_ref03_Check rfl fun hcl => ?_
  unfold ac_ref03_Check
  simp only [argsT, Nat.zero_add, Nat.reduceAdd]
  repeat (first|(with_reducible first|apply X1|apply X2|apply X8)|((with_reducible apply e_end);(simp;exact Red.rfl))|((with_reducible apply O1);rfl;(simp (disch:=omega);exact Red.rfl);exact Red.rfl;(focus (first|(simp;done)|omega|(simp;omega)))))
  (with_reducible apply e_call); (simp; exact Red.rfl); exact kS _
  rintro _ _ ⟨rfl, b, rfl, hb⟩
  cases b with
  | false =>
    repeat (first|(with_reducible first|apply X1|apply X2|apply X3|apply X8|apply X9)|((with_reducible apply e_end);(simp;exact Red.rfl))|((with_reducible apply O1);rfl;(simp (disch:=omega);exact Red.rfl);exact Red.rfl;(focus (first|(simp;done)|omega|(simp;omega))))|((with_reducible apply Z9);(simp (disch:=omega);exact Red.rfl)))
    refine q_drop (.inr rfl) (by simp; exact Red.rfl) (by simp) ⟨rfl, false, rfl, hb⟩
  | true =>
    repeat (first|(with_reducible first|apply X1|apply X2|apply X3|apply X5|apply X8)|((with_reducible apply e_end);(simp;exact Red.rfl))|((with_reducible apply O1);rfl;(simp (disch:=omega);exact Red.rfl);exact Red.rfl;(focus (first|(simp;done)|omega|(simp;omega))))|((with_reducible apply W3);(simp (disch:=omega);exact Red.rfl)))
    refine q_drop (.inr rfl) (by simp; exact Red.rfl) (by simp) ⟨rfl, true, rfl, hb⟩
theorem c_r3both (H : Heap) (l : List Str) (s : Sl) (id off : Nat) (ex : Bool) (hs : rd H id off (l.length * 9) = some (l.flatMap Str.av)) (hn : (l.length : Int) < 1000000) (hc : 0 ≤ s.c ∧ s.c ≤ 255) {e : Int} (he1 : ¬ validL l → e = 10) (he2 : validL l → ¬ s.ok → e = 30) (he3 : validL l → s.ok → e = 0) :
    ACalls Try.prog F.ref03_both [.agg [.slice id off l.length 9 ex], .agg s.av] H (fun v h' => v = .int .i64 e ∧ h' = H) := by
  have hid := rd_lt hs
  have kc := fun G => c_r3Check G s hc
  simp only [sav_eq] at kc ⊢
  refine acalls_of ok_ref03_both rfl fun hcl => ?_
  unfold ac_ref03_both
  simp only [argsT, Nat.zero_add, Nat.reduceAdd]
  repeat (first|(with_reducible first|apply X1|apply X2|apply X8)|((with_reducible apply e_end);(simp;exact Red.rfl))|((with_reducible apply O1);rfl;(simp (disch:=omega);exact Red.rfl);exact Red.rfl;(focus (first|(simp;done)|omega|(simp;omega)))))
  (with_reducible apply e_call); (simp; exact Red.rfl); exact c_rTrack _ l id off ex (by rw [rd_old _ hid]; exact hs) hn
  rintro _ _ ⟨rfl, b, rfl, hb⟩
  cases b with
  | false =>
    obtain rfl := he1 (fun h => by have := hb.2 h; cases this)
    repeat (first|(with_reducible first|apply X1|apply X2|apply X3|apply X8|apply X9)|((with_reducible apply e_end);(simp;exact Red.rfl))|((with_reducible apply O1);rfl;(simp (disch:=omega);exact Red.rfl);exact Red.rfl;(focus (first|(simp;done)|omega|(simp;omega))))|((with_reducible apply Z9);(simp (disch:=omega);exact Red.rfl)))
    refine q_drop (.inr rfl) (by simp; exact Red.rfl) (by simp) ⟨rfl, rfl⟩
  | true =>
    have hv := hb.1 rfl
    repeat (first|(with_reducible first|apply X1|apply X2|apply X5|apply X8)|((with_reducible apply e_end);(simp;exact Red.rfl))|((with_reducible apply O1);rfl;(simp (disch:=omega);exact Red.rfl);exact Red.rfl;(focus (first|(simp;done)|omega|(simp;omega))))|((with_reducible apply W3);(simp (disch:=omega);exact Red.rfl)))
    (with_reducible apply e_call); (simp; exact Red.rfl); exact kc _
    rintro _ _ ⟨rfl, b, rfl, hb2⟩
    cases b with
    | false =>
      obtain rfl := he2 hv (fun h => by have := hb2.2 h; cases this)
      repeat (first|(with_reducible first|apply X3|apply X8)|((with_reducible apply e_end);(simp;exact Red.rfl))|((with_reducible apply O1);rfl;(simp (disch:=omega);exact Red.rfl);exact Red.rfl;(focus (first|(simp;done)|omega|(simp;omega)))))
      refine q_drop (.inr rfl) (by simp; exact Red.rfl) (by simp) ⟨rfl, rfl⟩
    | true =>
      obtain rfl := he3 hv (hb2.1 rfl)
      repeat (first|(with_reducible first|apply X3|apply X8)|((with_reducible apply e_end);(simp;exact Red.rfl))|((with_reducible apply O1);rfl;(simp (disch:=omega);exact Red.rfl);exact Red.rfl;(focus (first|(simp;done)|omega|(simp;omega)))))
      refine q_drop (.inr rfl) (by simp; exact Red.rfl) (by simp) ⟨rfl, rfl⟩
theorem c_r3inside (H : Heap) (l : List Str) (s : Sl) (id off i : Nat) (ex : Bool) (hs : rd H id off (l.length * 9) = some (l.flatMap Str.av)) (hv : validL l) (hk : s.ok) (hi : i < l.length) :
    ACalls Try.prog F.ref03_inside [.agg [.slice id off l.length 9 ex], .agg s.av, .int .i64 i] H (fun v h' => v = .agg [.int .i64 (wiF (hd false s l) i), .int .i64 (wiF (hd true s l) i)] ∧ h' = H) := by
  have hid := rd_lt hs
  have h12 := hv.1
  have kh := fun G => c_r3heads (H ++ G) l s id off ex (by rw [rd_old _ hid]; exact hs) hv hk
  simp only [wiF]
  have hlA : (avR (r2 (hd false s l) (hd true s l)) (l.length + 1)).length = (l.length + 1) * 2 := (plain_r2 _ _).length _
  have g0 : ∀ v, v < l.length + 1 → ((avR (r2 (hd false s l) (hd true s l)) (l.length + 1)).drop (v * 2)).take 1 = [.int .i64 (hd false s l v)] := fun v hv => (plain_r2 (hd false s l) (hd true s l)).part (c := 0) (m := 1) hv (by omega)
  have g1 : ∀ v, v < l.length + 1 → ((avR (r2 (hd false s l) (hd true s l)) (l.length + 1)).drop (v * 2 + 1)).take 1 = [.int .i64 (hd true s l v)] := fun v hv => (plain_r2 (hd false s l) (hd true s l)).part (c := 1) (m := 1) hv (by omega)
  have pM : Plain (avR (r2 (hd false s l) (hd true s l)) (l.length + 1)) := (plain_r2 _ _).plain _
  have a0 := g0 i (by omega)
  have a1 := g1 i (by omega)
  have a2 := g0 (i + 1) (by omega)
  have a3 := g1 (i + 1) (by omega)
  have x1 : (if hd false s l i < hd false s l (i + 1) then hd false s l (i + 1) else hd false s l i) = max (hd false s l i) (hd false s l (i + 1)) := by omega
  have x2 : (if hd true s l i < hd true s l (i + 1) then hd true s l (i + 1) else hd true s l i) = max (hd true s l i) (hd true s l (i + 1)) := by omega
  generalize avR (r2 (hd false s l) (hd true s l)) (l.length + 1) = M at *
  generalize hd false s l = f at *
  generalize hd true s l = g at *
  simp only [sav_eq] at kh ⊢
  refine acalls_of ok_ref03_inside rfl fun hcl => ?_
  unfold ac_ref03_inside
  simp only [argsT, Nat.zero_add, Nat.reduceAdd]
  repeat (first|(with_reducible first|apply X1|apply X2|apply X8)|((with_reducible apply e_end);(simp;exact Red.rfl))|((with_reducible apply O1);rfl;(simp (disch:=omega);exact Red.rfl);exact Red.rfl;(focus (first|(simp;done)|omega|(simp;omega)))))
  (with_reducible apply e_call); (simp; exact Red.rfl); exact kh _
  rintro _ _ ⟨ex2, rfl, rfl⟩
  have w0 : i * 2 + 1 ≤ (l.length + 1) * 2 := by omega
  have w1 : i * 2 + 2 ≤ (l.length + 1) * 2 := by omega
  have w2 : (i + 1) * 2 + 1 ≤ (l.length + 1) * 2 := by omega
  have w3 : (i + 1) * 2 + 2 ≤ (l.length + 1) * 2 := by omega
  have u0 : i < l.length + 1 := by omega
  have u1 : (i : Int) < (l.length : Int) + 1 := by omega
  have u2 : i + 1 < l.length + 1 := by omega
  repeat (first|(with_reducible first|apply X1|apply X3|apply X8|apply Y9)|((with_reducible first|apply e_end|apply d_end);(simp;exact Red.rfl))|((first|((with_reducible apply O1);rfl)|((with_reducible apply P1);rfl)|((with_reducible apply P2);rfl)|((with_reducible apply P4);rfl));(simp (disch:=omega) [hlA, a0, a1, a2, a3, w0, w1, w2, w3, u0, u1, u2, hi, x1, x2];exact Red.rfl);exact Red.rfl;(focus (first|(simp;done)|omega|(simp;omega)))))
  refine q_drop (.inr rfl) (by simp; exact Red.rfl) (by simp) ⟨rfl, rfl⟩
theorem c_r3curve (H : Heap) (l : List Str) (id off : Nat) (ex : Bool) (i : Int) (hs : rd H id off (l.length * 9) = some (l.flatMap Str.av)) (hv : validL l) {b : Bool} (hb : b = true ↔ 0 ≤ i ∧ i < l.length ∧ (strAt l i.toNat).side ≠ 0) :
    ACalls Try.prog F.ref03_curve [.agg [.slice id off l.length 9 ex], .int .i64 i] H (fun v h' => v = .bool b ∧ h' = H) := by
  refine acalls_of ok_ref03_curve rfl fun hcl => ?_
  unfold ac_ref03_curve
  simp only [argsT, Nat.zero_add, Nat.reduceAdd]
  have hid := rd_lt hs
  have h12 := hv.1
  repeat (first|(with_reducible first|apply X1|apply X2|apply X8)|((with_reducible apply e_end);(simp;exact Red.rfl))|((with_reducible apply O1);rfl;(simp (disch:=omega);exact Red.rfl);exact Red.rfl;(focus (first|(simp;done)|omega|(simp;omega)))))
  by_cases hi : 0 ≤ i ∧ i < l.length
  · obtain ⟨k, rfl⟩ : ∃ k : Nat, i = k := ⟨i.toNat, by omega⟩
    have hk : k < l.length := by omega
    have hx : rd H id (off + k * 9 + 7) 1 = some [.int .u8 (strAt l k).side] := by
      rw [rd_sub (rd_row Str.av_length hs hk) (show 7 + 1 ≤ 9 by decide), strAt_eq hk]; rfl
    (with_reducible apply e_call); (simp; exact Red.rfl); exact c_r3within _ _ _ _ (b := true) (by simp only [true_iff]; omega)
    rintro _ _ ⟨rfl, rfl⟩
    repeat (first|(with_reducible first|apply X3|apply X8)|((with_reducible apply e_end);(simp;exact Red.rfl))|((with_reducible apply O1);rfl;(simp (disch:=omega) [rd_old _ hid, hx, hk];exact Red.rfl);exact Red.rfl;(focus (first|(simp;done)|omega|(simp;omega))))|((with_reducible apply Z7);(simp (disch:=omega) [rd_old _ hid, hx, hk];exact Red.rfl)))
    by_cases h0 : (strAt l k).side = 0
    · obtain rfl : b = false := by cases b with | false => rfl | true => exact absurd h0 (hb.1 rfl).2.2
      skip
      refine q_drop (.inr rfl) (by simp; exact Red.rfl) (by simp) ⟨by simp [h0], rfl⟩
    · obtain rfl : b = true := hb.2 ⟨by omega, by omega, h0⟩
      skip
      refine q_drop (.inr rfl) (by simp; exact Red.rfl) (by simp) ⟨by simp [h0], rfl⟩
  · obtain rfl : b = false := by cases b with | false => rfl | true => exact absurd ⟨(hb.1 rfl).1, (hb.1 rfl).2.1⟩ hi
    (with_reducible apply e_call); (simp; exact Red.rfl); exact c_r3within _ _ _ _ (b := false) (by simp only [Bool.false_eq_true, false_iff]; omega)
    rintro _ _ ⟨rfl, rfl⟩
    repeat (first|(with_reducible first|apply X3|apply X8)|((with_reducible apply e_end);(simp;exact Red.rfl))|((with_reducible apply O1);rfl;(simp (disch:=omega);exact Red.rfl);exact Red.rfl;(focus (first|(simp;done)|omega|(simp;omega))))|((with_reducible apply Z1);(simp (disch:=omega);exact Red.rfl)))
    refine q_drop (.inr rfl) (by simp; exact Red.rfl) (by simp) ⟨rfl, rfl⟩
theorem c_r3height (H : Heap) (l : List Str) (s : Sl) (id off i : Nat) (ex : Bool) (hs : rd H id off (l.length * 9) = some (l.flatMap Str.av)) (hv : validL l) (hk : s.ok) (hi : i < l.length) (hc : (strAt l i).side ≠ 0) :
    ACalls Try.prog F.ref03_height [.agg [.slice id off l.length 9 ex], .agg s.av, .int .i64 i] H (fun v h' => v = .agg [.int .i64 (htF (wiF (hd false s l) i) (strAt l i).rHi s.t1), .int .i64 (htF (wiF (hd true s l) i) (strAt l i).rLo s.t2)] ∧ h' = H) := by
  have hid := rd_lt hs
  have h12 := hv.1
  have hR := curve_rad hv hi hc
  have wb0 := wi_bd hv hk false hi
  have wb1 := wi_bd hv hk true hi
  have ki := fun G => c_r3inside (H ++ G) l s id off i ex (by rw [rd_old _ hid]; exact hs) hv hk hi
  have hx : rd H id (off + i * 9 + 5) 2 = some [.int .i64 (strAt l i).rLo, .int .i64 (strAt l i).rHi] := by
    rw [rd_sub (rd_row Str.av_length hs hi) (show 5 + 2 ≤ 9 by decide), strAt_eq hi]; rfl
  obtain ⟨k0, k1, k2, k3, k4, k5⟩ := hk
  generalize wiF (hd false s l) i = f at *
  generalize wiF (hd true s l) i = g at *
  generalize (strAt l i).rLo = rl at *
  generalize (strAt l i).rHi = rh at *
  simp only [sav_eq] at ki ⊢
  have q0 : (1200 * f).tdiv (10 * rh) = 1200 * f / (10 * rh) := Int.tdiv_eq_ediv_of_nonneg (by omega)
  have q1 : (1200 * g).tdiv (10 * rl) = 1200 * g / (10 * rl) := Int.tdiv_eq_ediv_of_nonneg (by omega)
  have q2 := Int.ediv_le_self (a := 1200 * f) (10 * rh) (by omega)
  have q3 := Int.ediv_le_self (a := 1200 * g) (10 * rl) (by omega)
  have q4 := Int.ediv_nonneg (a := 1200 * f) (b := 10 * rh) (by omega) (by omega)
  have q5 := Int.ediv_nonneg (a := 1200 * g) (b := 10 * rl) (by omega) (by omega)
  simp only [htF]
  refine acalls_of ok_ref03_height rfl fun hcl => ?_
  unfold ac_ref03_height
  simp only [argsT, Nat.zero_add, Nat.reduceAdd]
  repeat (first|(with_reducible first|apply X1|apply X2|apply X8|apply Y9)|((with_reducible apply e_end);(simp;exact Red.rfl))|((first|((with_reducible apply O1);rfl)|((with_reducible apply P1);rfl)|((with_reducible apply P2);rfl));(simp (disch:=omega);exact Red.rfl);exact Red.rfl;(focus (first|(simp;done)|omega|(simp;omega)))))
  (with_reducible apply d_call); (simp; exact Red.rfl); exact ki _; (focus (first | (simp; done) | (simp; omega)))
  repeat (first|((first|((with_reducible apply P1);rfl)|((with_reducible apply P3);rfl));(simp (disch:=omega) [rd_old _ hid, hx, hi];exact Red.rfl);exact Red.rfl;(focus (first|(simp;done)|omega|(simp;omega))))|((with_reducible apply P6);rfl;(simp (disch:=omega) [rd_old _ hid, hx, hi];exact Red.rfl);exact Red.rfl;(focus (first|(simp [pr];done)|(simp [pr];omega)))))
  (with_reducible apply d_do_); rfl; rfl; (simp (disch := omega) [rd_old _ hid, hx]; exact Red.rfl); exact Red.rfl
  · (first | (simp; done) | omega | (simp; omega))
  · (first | (simp; done) | omega | (simp; omega))
  · (first | (simp; done) | omega | (simp; omega))
  · simp [recheck, pr, AOp.sem, rd_old _ hid, hx]
  simp only [St.put]
  (with_reducible apply d_do_); rfl; rfl; (simp (disch := omega) [rd_old _ hid, hx]; exact Red.rfl); exact Red.rfl
  · (first | (simp; done) | omega | (simp; omega))
  · (first | (simp; done) | omega | (simp; omega))
  · (first | (simp; done) | omega | (simp; omega))
  · simp [recheck, pr, AOp.sem, rd_old _ hid, hx]
  simp only [St.put]
  repeat (first|(with_reducible first|apply X1|apply X3|apply X8|apply Y9)|((with_reducible apply d_end);(simp;exact Red.rfl))|((first|((with_reducible apply P1);rfl)|((with_reducible apply P2);rfl)|((with_reducible apply P4);rfl));(simp (disch:=omega) [q0, q1];exact Red.rfl);exact Red.rfl;(focus (first|(simp;done)|omega|(simp;omega)))))
  refine q_drop (.inr rfl) (by simp; exact Red.rfl) (by simp) ⟨rfl, rfl⟩
end Go.Proofs
/- The law SlideHeads: errors of the program and of the reference. -/
namespace Go.Proofs
open Go.Abs
attribute [local simp] AOp.den AOpd.ev lk cellsOf rd_new rd_new0 rd_zero rd_succ wr_new wr_new0 wr_zero wr_succ splice fillA binA scal sliceCells List.length_append argsT AV.sc scL AObj.sc resV getAll AR.get AOp.slots opdSlots opdsSlots partSlots eqAt at_new0 at_new set_new0 set_new wrap64
set_option linter.unusedSimpArgs false
set_option linter.unusedVariables false
open Classical in
noncomputable def errS (l : List Str) (s : Sl) : Int := if ¬ validL l then 10 else if ¬ s.ok then 30 else 0
theorem errS1 {l : List Str} {s : Sl} (h : ¬ validL l) : errS l s = 10 := by rw [errS, if_pos h]
theorem errS2 {l : List Str} {s : Sl} (h : validL l) (h2 : ¬ s.ok) : errS l s = 30 := by rw [errS, if_neg (by simp [h]), if_pos h2]
theorem errS3 {l : List Str} {s : Sl} (h : validL l) (h2 : s.ok) : errS l s = 0 := by rw [errS, if_neg (by simp [h]), if_neg (by simp [h2])]
theorem errS_bd (l : List Str) (s : Sl) : 0 ≤ errS l s ∧ errS l s ≤ 100 := by
  unfold errS
  split
  · omega
  · split <;> omega
theorem errS_ne {l : List Str} {s : Sl} (h : ¬ (validL l ∧ s.ok)) : errS l s ≠ 0 := by
  by_cases hv : validL l
  · rw [errS2 hv (fun hk => h ⟨hv, hk⟩)]; decide
  · rw [errS1 hv]; decide
theorem c_check1 (H : Heap) (l : List Str) (id off : Nat) (ex : Bool) (s : Sl) (xid xoff : Nat) (xex : Bool) (hs : rd H id off (l.length * 9) = some (l.flatMap Str.av)) (hn : (l.length : Int) < 1000000) (hx : rd H xid xoff 11 = some s.av) :
    ACalls Try.prog F.slide_checkAll [.agg [.slice id off l.length 9 ex], .slice xid xoff 1 11 xex] H (fun v h' => v = .int .i64 (errS l s) ∧ h' = H) :=
  (c_scheckAll H l id off ex [s] xid xoff xex hs hn (by simpa using hx) (by simp)).mono fun v h' h => by
    obtain ⟨rfl, e, rfl, ⟨rfl, h1, _, h3⟩ | ⟨rfl, h1⟩ | ⟨rfl, _, h2⟩ | ⟨rfl, h1, _, h3⟩⟩ := h
    · rw [errS3 h1 (one_sled.1 h3)]; exact ⟨rfl, rfl⟩
    · rw [errS1 h1]; exact ⟨rfl, rfl⟩
    · simp at h2
    · rw [errS2 h1 (fun h => h3 (one_sled.2 h))]; exact ⟨rfl, rfl⟩
theorem c_rboth (H : Heap) (l : List Str) (s : Sl) (id off : Nat) (ex : Bool) (hs : rd H id off (l.length * 9) = some (l.flatMap Str.av)) (hn : (l.length : Int) < 1000000) (hc : 0 ≤ s.c ∧ s.c ≤ 255) :
    ACalls Try.prog F.ref03_both [.agg [.slice id off l.length 9 ex], .agg s.av] H (fun v h' => v = .int .i64 (errS l s) ∧ h' = H) := c_r3both H l s id off ex hs hn hc errS1 errS2 errS3
end Go.Proofs
/- The law SlideSafes: whether a sled is safe, by the reference. -/
namespace Go.Proofs
open Go.Abs
attribute [local simp] AOp.den AOpd.ev lk cellsOf rd_new rd_new0 rd_zero rd_succ wr_new wr_new0 wr_zero wr_succ splice fillA binA scal sliceCells List.length_append argsT AV.sc scL AObj.sc resV getAll AR.get AOp.slots opdSlots opdsSlots partSlots eqAt at_new0 at_new set_new0 set_new wrap64
set_option linter.unusedSimpArgs false
set_option linter.unusedVariables false
theorem hd_le {l : List Str} {s : Sl} (hv : validL l) (hs : s.ok) {i : Nat} (hi : i ≤ l.length) : hd false s l i ≤ hd true s l i := by
  have h := cH_in (us := []) hv hs hi
  omega
theorem wi_le {l : List Str} {s : Sl} (hv : validL l) (hs : s.ok) {i : Nat} (hi : i < l.length) : wiF (hd false s l) i ≤ wiF (hd true s l) i := by
  have h1 := hd_le hv hs (show i ≤ l.length by omega)
  have h2 := hd_le hv hs (show i + 1 ≤ l.length by omega)
  simp only [wiF]; omega
theorem thr_le {l : List Str} {s : Sl} (hv : validL l) (hs : s.ok) {i : Nat} (hi : i < l.length) (h : thrB false s l i = true) : thrB true s l i = true := by
  simp only [thrB, decide_eq_true_eq] at h ⊢
  refine ⟨h.1, ?_⟩
  have hR := curve_rad hv hi h.1
  have w := wi_bd hv hs false hi
  have t := hs.2.2.2.2.2
  have := ht_mono w.1 (wi_le hv hs hi) (show 0 < (strAt l i).rLo by omega) hR.1 (show s.t1 ≤ s.t2 by omega)
  have h2 := h.2
  simp only [up, dn, if_true] at h2 ⊢
  simp only [Bool.false_eq_true, if_false] at h2
  omega
set_option maxHeartbeats 2000000 in
theorem c_r3safe (H : Heap) (l : List Str) (s : Sl) (id off : Nat) (ex : Bool) (hs : rd H id off (l.length * 9) = some (l.flatMap Str.av)) (hv : validL l) (hk : s.ok) :
    ACalls Try.prog F.ref03_safe [.agg [.slice id off l.length 9 ex], .agg s.av] H (fun v h' => v = .int .u8 (knF s l) ∧ h' = H) := by
  have hid := rd_lt hs
  have h12 := hv.1
  have kc := fun G (i : Nat) (b : Bool) hb => c_r3curve (H ++ G) l id off ex i (by rw [rd_old _ hid]; exact hs) hv (b := b) hb
  have kh := fun G i hi hcu => c_r3height (H ++ G) l s id off i ex (by rw [rd_old _ hid]; exact hs) hv hk hi hcu
  have hle := fun {i : Nat} (hi : i < l.length) => thr_le hv hk hi
  have fin0 : ∀ i, i < l.length → thrB false s l i = true → knF s l = 0 := fun i hi h => by
    have h1 : ¬ thN false s l = 0 := fun e => by have := thN_zero.1 e i hi; rw [h] at this; cases this
    have h2 : ¬ thN true s l = 0 := fun e => by have := thN_zero.1 e i hi; rw [hle hi h] at this; cases this
    rw [knF, if_neg h2, if_neg h1]
  have fin2 : (∀ i, i < l.length → thrB true s l i = false) → knF s l = 2 := fun h => by rw [knF, if_pos (thN_zero.2 h)]
  have fin1 : (∀ i, i < l.length → thrB false s l i = false) → (∃ i, i < l.length ∧ thrB true s l i = true) → knF s l = 1 := fun h ⟨i, hi, h2⟩ => by
    have h3 : ¬ thN true s l = 0 := fun e => by have := thN_zero.1 e i hi; rw [h2] at this; cases this
    rw [knF, if_neg h3, if_pos (thN_zero.2 h)]
  have b0 : ∀ i, thrB false s l i = decide ((strAt l i).side ≠ 0 ∧ (strAt l i).wall < htF (wiF (hd false s l) i) (strAt l i).rHi s.t1) := fun _ => rfl
  have b1 : ∀ i, thrB true s l i = decide ((strAt l i).side ≠ 0 ∧ (strAt l i).wall < htF (wiF (hd true s l) i) (strAt l i).rLo s.t2) := fun _ => rfl
  generalize knF s l = kn at *
  generalize thrB false s l = P at *
  generalize thrB true s l = Q at *
  simp only [sav_eq] at kh ⊢
  refine acalls_of ok_ref03_safe rfl fun hcl => ?_
  unfold ac_ref03_safe
  simp only [argsT, Nat.zero_add, Nat.reduceAdd]
  repeat (first|(with_reducible first|apply X1|apply X2|apply X6|apply X8)|((with_reducible apply e_end);(simp;exact Red.rfl))|((with_reducible apply O1);rfl;(simp (disch:=omega);exact Red.rfl);exact Red.rfl;(focus (first|(simp;done)|omega|(simp;omega)))))
  refine e_loop (ι := { x : Nat × Bool // x.1 ≤ l.length ∧ (∀ j, j < x.1 → P j = false) ∧ (x.2 = true ↔ ∃ j, j < x.1 ∧ Q j = true) })
    (fun x => [(2, .ptr H.length 0), (3, .ptr (H.length + 1) 0), (5, .int .u8 (if x.1.2 = true then 1 else 2)), (6, .int .i64 x.1.1)])
    (fun x => H ++ [.cells [.slice id off l.length 9 ex] true, .cells [.int .u8 s.c, .int .i64 s.s1, .int .i64 s.s2, .int .i64 s.r1, .int .i64 s.r2, .int .i64 s.d1, .int .i64 s.d2, .int .i64 s.w1, .int .i64 s.w2, .int .i64 s.t1, .int .i64 s.t2] true]) (fun x => l.length - x.1.1) ⟨(0, false), by simp, by simp, by simp⟩ ?_ ?_
  · exact .inl rfl
  · rintro ⟨⟨i, b⟩, hi, hP, hQ⟩
    dsimp only at hi hP hQ ⊢
    by_cases hlt : i < l.length
    · have hlt2 : (i : Int) < l.length := by omega
      have stepP : P i = false → ∀ j, j < i + 1 → P j = false := fun h j hj => by
        rcases Nat.lt_or_ge j i with h1 | h1
        · exact hP j h1
        · obtain rfl : j = i := by omega
          exact h
      have stepQ : Q i = false → (b = true ↔ ∃ j, j < i + 1 ∧ Q j = true) := fun h => by
        rw [hQ]
        constructor
        · rintro ⟨j, h1, h2⟩; exact ⟨j, by omega, h2⟩
        · rintro ⟨j, h1, h2⟩
          refine ⟨j, ?_, h2⟩
          rcases Nat.lt_or_ge j i with h3 | h3
          · exact h3
          · obtain rfl : j = i := by omega
            rw [h] at h2; cases h2
      have b0 := b0 i
      have b1 := b1 i
      have hx : rd H id (off + i * 9 + 8) 1 = some [.int .i64 (strAt l i).wall] := by
        rw [rd_sub (rd_row Str.av_length hs hlt) (show 8 + 1 ≤ 9 by decide), strAt_eq hlt]; rfl
      repeat (first|(with_reducible first|apply X1|apply X2|apply X5|apply X6|apply X8)|((with_reducible apply e_end);(simp;exact Red.rfl))|((with_reducible apply O1);rfl;(simp (disch:=omega) [hlt, hlt2];exact Red.rfl);exact Red.rfl;(focus (first|(simp;done)|omega|(simp;omega))))|((with_reducible apply Z9);(simp (disch:=omega) [hlt, hlt2];exact Red.rfl)))
      by_cases hside : (strAt l i).side = 0
      · (with_reducible apply e_call); (simp; exact Red.rfl); exact kc _ i false (by simp [hside])
        rintro _ _ ⟨rfl, rfl⟩
        have p0 : P i = false := by rw [b0]; simp [hside]
        have p1 : Q i = false := by rw [b1]; simp [hside]
        repeat (first|(with_reducible first|apply X2|apply X4|apply X8|apply Y1|apply Y4)|((with_reducible apply e_end);(simp;exact Red.rfl))|((with_reducible apply O1);rfl;(simp (disch:=omega);exact Red.rfl);exact Red.rfl;(focus (first|(simp;done)|omega|(simp;omega))))|((with_reducible apply Z9);(simp (disch:=omega);exact Red.rfl)))
        exact q_again ⟨(i + 1, b), by dsimp only; omega, stepP p0, stepQ p1⟩ (by dsimp only; omega) (.inl (by simp))
      · (with_reducible apply e_call); (simp; exact Red.rfl); exact kc _ i true (by simp only [true_iff, Int.toNat_natCast]; exact ⟨by omega, by omega, hside⟩)
        rintro _ _ ⟨rfl, rfl⟩
        have kh := fun G => kh G i hlt hside
        generalize htF (wiF (hd false s l) i) (strAt l i).rHi s.t1 = f at *
        generalize htF (wiF (hd true s l) i) (strAt l i).rLo s.t2 = g at *
        generalize (strAt l i).wall = w at *
        repeat (first|(with_reducible first|apply X1|apply X2|apply X5|apply X8)|((with_reducible apply e_end);(simp;exact Red.rfl))|((with_reducible apply O1);rfl;(simp (disch:=omega);exact Red.rfl);exact Red.rfl;(focus (first|(simp;done)|omega|(simp;omega))))|((with_reducible apply W3);(simp (disch:=omega);exact Red.rfl)))
        (with_reducible apply e_call); (simp; exact Red.rfl); exact kh _
        rintro _ _ ⟨rfl, rfl⟩
        by_cases hf : w < f
        · have p0 : P i = true := by rw [b0]; simp [hside, hf]
          have := fin0 i hlt p0
          repeat (first|(with_reducible first|apply X1|apply X2|apply X3|apply X8|apply X9|apply Y3|apply Y5|apply Y9)|((with_reducible first|apply e_end|apply d_end);(simp;exact Red.rfl))|((first|((with_reducible apply O1);rfl)|((with_reducible apply O2);rfl)|((with_reducible apply P1);rfl)|((with_reducible apply P2);rfl));(simp (disch:=omega) [hlt, hlt2, rd_old _ hid, hx, hf];exact Red.rfl);exact Red.rfl;(focus (first|(simp;done)|omega|(simp;omega))))|((with_reducible apply Z9);(simp (disch:=omega) [hlt, hlt2, rd_old _ hid, hx, hf];exact Red.rfl)))
          refine q_drop (.inr rfl) (by simp; exact Red.rfl) (by simp) ⟨by rw [this], rfl⟩
        · have p0 : P i = false := by rw [b0]; simp [hf]
          by_cases hg : w < g
          · have p1 : Q i = true := by rw [b1]; simp [hside, hg]
            repeat (first|(with_reducible first|apply X1|apply X2|apply X5|apply X8|apply Y2|apply Y9)|((with_reducible first|apply e_end|apply d_end);(simp;exact Red.rfl))|((first|((with_reducible apply O1);rfl)|((with_reducible apply O2);rfl)|((with_reducible apply P1);rfl)|((with_reducible apply P2);rfl));(simp (disch:=omega) [hlt, hlt2, rd_old _ hid, hx, hf, hg];exact Red.rfl);exact Red.rfl;(focus (first|(simp;done)|omega|(simp;omega))))|((with_reducible apply Z9);(simp (disch:=omega) [hlt, hlt2, rd_old _ hid, hx, hf, hg];exact Red.rfl))|((with_reducible apply W3);(simp (disch:=omega) [hlt, hlt2, rd_old _ hid, hx, hf, hg];exact Red.rfl)))
            exact q_again ⟨(i + 1, true), by dsimp only; omega, stepP p0, ⟨fun _ => ⟨i, by dsimp only; omega, p1⟩, fun _ => rfl⟩⟩ (by dsimp only; omega) (.inr <| le_take (G := [_, _]) (by simp [hid]; omega) (by simp [hid, Red]))
          · have p1 : Q i = false := by rw [b1]; simp [hg]
            repeat (first|(with_reducible first|apply X1|apply X2|apply X5|apply X8|apply Y2|apply Y9)|((with_reducible first|apply e_end|apply d_end);(simp;exact Red.rfl))|((first|((with_reducible apply O1);rfl)|((with_reducible apply O2);rfl)|((with_reducible apply P1);rfl)|((with_reducible apply P2);rfl));(simp (disch:=omega) [hlt, hlt2, rd_old _ hid, hx, hf, hg];exact Red.rfl);exact Red.rfl;(focus (first|(simp;done)|omega|(simp;omega))))|((with_reducible apply W3);(simp (disch:=omega) [hlt, hlt2, rd_old _ hid, hx, hf, hg];exact Red.rfl)))
            exact q_again ⟨(i + 1, b), by dsimp only; omega, stepP p0, stepQ p1⟩ (by dsimp only; omega) (.inr <| le_take (G := [_, _]) (by simp [hid]; omega) (by simp [hid, Red]))
    · have hlt2 : ¬ (i : Int) < l.length := by omega
      obtain rfl : i = l.length := by omega
      repeat (first|(with_reducible first|apply X1|apply X2|apply X3|apply X4|apply X8|apply Y1|apply Y4|apply Y6)|((with_reducible apply e_end);(simp;exact Red.rfl))|((with_reducible apply O1);rfl;(simp (disch:=omega) [hlt2];exact Red.rfl);exact Red.rfl;(focus (first|(simp;done)|omega|(simp;omega))))|((with_reducible apply W3);(simp (disch:=omega) [hlt2];exact Red.rfl)))
      cases b with
      | true =>
        have := fin1 hP (hQ.1 rfl)
        refine q_drop (.inr rfl) (by simp; exact Red.rfl) (by simp) ⟨by rw [this], rfl⟩
      | false =>
        have := fin2 (fun j hj => by cases e : Q j with | false => rfl | true => exact absurd (hQ.2 ⟨j, hj, e⟩) (by decide))
        refine q_drop (.inr rfl) (by simp; exact Red.rfl) (by simp) ⟨by rw [this], rfl⟩
end Go.Proofs
/- The law SlideSafes: safe sleds, and who may be thrown where. -/
namespace Go.Proofs
open Go.Abs
attribute [local simp] AOp.den AOpd.ev lk cellsOf rd_new rd_new0 rd_zero rd_succ wr_new wr_new0 wr_zero wr_succ splice fillA binA scal sliceCells List.length_append argsT AV.sc scL AObj.sc resV getAll AR.get AOp.slots opdSlots opdsSlots partSlots eqAt at_new0 at_new set_new0 set_new wrap64
set_option linter.unusedSimpArgs false
set_option linter.unusedVariables false
theorem c_SafeX (H : Heap) (l : List Str) (s : Sl) (id off : Nat) (ex : Bool) (hs : rd H id off (l.length * 9) = some (l.flatMap Str.av)) (hn : (l.length : Int) < 1000000) (hb : ¬ (validL l ∧ s.ok)) :
    ACalls Try.prog F.slide_Safe [.agg [.slice id off l.length 9 ex], .agg s.av] H (fun v h' => v = .tuple [.int .u8 0, .int .i64 (errS l s)] ∧ h' = H) := by
  have hid := rd_lt hs
  have he := errS_ne hb
  have kc := fun G xid h => c_check1 (H ++ G) l id off ex s xid 0 true (by rw [rd_old _ hid]; exact hs) hn h
  generalize errS l s = e at *
  simp only [sav_eq] at kc ⊢
  refine acalls_of ok_slide_Safe rfl fun hcl => ?_
  unfold ac_slide_Safe
  simp only [argsT, Nat.zero_add, Nat.reduceAdd]
  repeat (first|(with_reducible first|apply X1|apply X2|apply X8)|((with_reducible apply e_end);(simp;exact Red.rfl))|((with_reducible apply O1);rfl;(simp (disch:=omega);exact Red.rfl);exact Red.rfl;(focus (first|(simp;done)|omega|(simp;omega)))))
  (with_reducible apply e_call); (simp; exact Red.rfl); exact kc _ _ (by simp)
  rintro _ _ ⟨rfl, rfl⟩
  repeat (first|(with_reducible first|apply X1|apply X2|apply X3|apply X8|apply X9)|((with_reducible apply e_end);(simp;exact Red.rfl))|((with_reducible apply O1);rfl;(simp (disch:=omega) [he];exact Red.rfl);exact Red.rfl;(focus (first|(simp;done)|omega|(simp;omega))))|((with_reducible apply Z9);(simp (disch:=omega) [he];exact Red.rfl)))
  refine q_drop (.inr rfl) (by simp; exact Red.rfl) (by simp) ⟨rfl, rfl⟩
theorem c_rSafeX (H : Heap) (l : List Str) (s : Sl) (id off : Nat) (ex : Bool) (hs : rd H id off (l.length * 9) = some (l.flatMap Str.av)) (hn : (l.length : Int) < 1000000) (hc : 0 ≤ s.c ∧ s.c ≤ 255) (hb : ¬ (validL l ∧ s.ok)) :
    ACalls Try.prog F.ref03_Safe [.agg [.slice id off l.length 9 ex], .agg s.av] H (fun v h' => v = .tuple [.int .u8 0, .int .i64 (errS l s)] ∧ h' = H) := by
  have hid := rd_lt hs
  have he := errS_ne hb
  have kc := fun G => c_rboth (H ++ G) l s id off ex (by rw [rd_old _ hid]; exact hs) hn hc
  generalize errS l s = e at *
  simp only [sav_eq] at kc ⊢
  refine acalls_of ok_ref03_Safe rfl fun hcl => ?_
  unfold ac_ref03_Safe
  simp only [argsT, Nat.zero_add, Nat.reduceAdd]
  repeat (first|(with_reducible first|apply X1|apply X2|apply X8)|((with_reducible apply e_end);(simp;exact Red.rfl))|((with_reducible apply O1);rfl;(simp (disch:=omega);exact Red.rfl);exact Red.rfl;(focus (first|(simp;done)|omega|(simp;omega)))))
  (with_reducible apply e_call); (simp; exact Red.rfl); exact kc _
  rintro _ _ ⟨rfl, rfl⟩
  repeat (first|(with_reducible first|apply X1|apply X2|apply X3|apply X8|apply X9)|((with_reducible apply e_end);(simp;exact Red.rfl))|((with_reducible apply O1);rfl;(simp (disch:=omega) [he];exact Red.rfl);exact Red.rfl;(focus (first|(simp;done)|omega|(simp;omega))))|((with_reducible apply Z9);(simp (disch:=omega) [he];exact Red.rfl)))
  refine q_drop (.inr rfl) (by simp; exact Red.rfl) (by simp) ⟨rfl, rfl⟩
theorem c_rSafe (H : Heap) (l : List Str) (s : Sl) (id off : Nat) (ex : Bool) (hs : rd H id off (l.length * 9) = some (l.flatMap Str.av)) (hv : validL l) (hk : s.ok) (hc : 0 ≤ s.c ∧ s.c ≤ 255) :
    ACalls Try.prog F.ref03_Safe [.agg [.slice id off l.length 9 ex], .agg s.av] H (fun v h' => v = .tuple [.int .u8 (knF s l), .int .i64 0] ∧ h' = H) := by
  have hid := rd_lt hs
  have h12 := hv.1
  have kc := fun G => c_rboth (H ++ G) l s id off ex (by rw [rd_old _ hid]; exact hs) (by omega) hc
  rw [errS3 hv hk] at kc
  have kh := fun G => c_r3safe (H ++ G) l s id off ex (by rw [rd_old _ hid]; exact hs) hv hk
  generalize knF s l = k at *
  simp only [sav_eq] at kc kh ⊢
  refine acalls_of ok_ref03_Safe rfl fun hcl => ?_
  unfold ac_ref03_Safe
  simp only [argsT, Nat.zero_add, Nat.reduceAdd]
  repeat (first|(with_reducible first|apply X1|apply X2|apply X8)|((with_reducible apply e_end);(simp;exact Red.rfl))|((with_reducible apply O1);rfl;(simp (disch:=omega);exact Red.rfl);exact Red.rfl;(focus (first|(simp;done)|omega|(simp;omega)))))
  (with_reducible apply e_call); (simp; exact Red.rfl); exact kc _
  rintro _ _ ⟨rfl, rfl⟩
  repeat (first|(with_reducible first|apply X1|apply X2|apply X5|apply X8)|((with_reducible apply e_end);(simp;exact Red.rfl))|((with_reducible apply O1);rfl;(simp (disch:=omega);exact Red.rfl);exact Red.rfl;(focus (first|(simp;done)|omega|(simp;omega))))|((with_reducible apply W3);(simp (disch:=omega);exact Red.rfl)))
  (with_reducible apply e_call); (simp; exact Red.rfl); exact kh _
  rintro _ _ ⟨rfl, rfl⟩
  repeat (first|(with_reducible first|apply X3|apply X8)|((with_reducible apply e_end);(simp;exact Red.rfl))|((with_reducible apply O1);rfl;(simp (disch:=omega);exact Red.rfl);exact Red.rfl;(focus (first|(simp;done)|omega|(simp;omega)))))
  refine q_drop (.inr rfl) (by simp; exact Red.rfl) (by simp) ⟨rfl, rfl⟩
theorem knF_bd (s : Sl) (l : List Str) : 0 ≤ knF s l ∧ knF s l ≤ 2 := by
  unfold knF
  split
  · omega
  · split <;> omega
theorem safe_both (l : List Str) (s : Sl) (hn : (l.length : Int) < 1000000) (hc : 0 ≤ s.c ∧ s.c ≤ 255) : ∃ k e : Int, (0 ≤ e ∧ e ≤ 100) ∧ ∀ (H : Heap) (id off : Nat) (ex : Bool), rd H id off (l.length * 9) = some (l.flatMap Str.av) →
    ACalls Try.prog F.slide_Safe [.agg [.slice id off l.length 9 ex], .agg s.av] H (fun v h' => v = .tuple [.int .u8 k, .int .i64 e] ∧ h' = H) ∧ ACalls Try.prog F.ref03_Safe [.agg [.slice id off l.length 9 ex], .agg s.av] H (fun v h' => v = .tuple [.int .u8 k, .int .i64 e] ∧ h' = H) := by
  by_cases hb : validL l ∧ s.ok
  · exact ⟨_, 0, by omega, fun H id off ex hs => ⟨c_Safe H l id off ex s hs hb.1 hb.2, c_rSafe H l s id off ex hs hb.1 hb.2 hc⟩⟩
  · exact ⟨0, errS l s, errS_bd l s, fun H id off ex hs => ⟨c_SafeX H l s id off ex hs hn hb, c_rSafeX H l s id off ex hs hn hc hb⟩⟩
theorem c_NamesX (H : Heap) (l : List Str) (s : Sl) (id off : Nat) (ex : Bool) (hs : rd H id off (l.length * 9) = some (l.flatMap Str.av)) (hn : (l.length : Int) < 1000000) (hb : ¬ (validL l ∧ s.ok)) :
    ACalls Try.prog F.slide_Names [.agg [.slice id off l.length 9 ex], .agg s.av] H (fun v h' => v = .tuple [.int .i64 0, .int .i64 0, .int .i64 (errS l s)] ∧ h' = H) := by
  have hid := rd_lt hs
  have he := errS_ne hb
  have kc := fun G xid h => c_check1 (H ++ G) l id off ex s xid 0 true (by rw [rd_old _ hid]; exact hs) hn h
  generalize errS l s = e at *
  simp only [sav_eq] at kc ⊢
  refine acalls_of ok_slide_Names rfl fun hcl => ?_
  unfold ac_slide_Names
  simp only [argsT, Nat.zero_add, Nat.reduceAdd]
  repeat (first|(with_reducible first|apply X1|apply X2|apply X8)|((with_reducible apply e_end);(simp;exact Red.rfl))|((with_reducible apply O1);rfl;(simp (disch:=omega);exact Red.rfl);exact Red.rfl;(focus (first|(simp;done)|omega|(simp;omega)))))
  (with_reducible apply e_call); (simp; exact Red.rfl); exact kc _ _ (by simp)
  rintro _ _ ⟨rfl, rfl⟩
  repeat (first|(with_reducible first|apply X1|apply X2|apply X3|apply X8|apply X9)|((with_reducible apply e_end);(simp;exact Red.rfl))|((first|((with_reducible apply O1);rfl)|((with_reducible apply O2);rfl));(simp (disch:=omega) [he];exact Red.rfl);exact Red.rfl;(focus (first|(simp;done)|omega|(simp;omega))))|((with_reducible apply Z9);(simp (disch:=omega) [he];exact Red.rfl)))
  refine q_drop (.inr rfl) (by simp; exact Red.rfl) (by simp) ⟨rfl, rfl⟩
theorem c_rNamesX (H : Heap) (l : List Str) (s : Sl) (id off : Nat) (ex : Bool) (hs : rd H id off (l.length * 9) = some (l.flatMap Str.av)) (hn : (l.length : Int) < 1000000) (hc : 0 ≤ s.c ∧ s.c ≤ 255) (hb : ¬ (validL l ∧ s.ok)) :
    ACalls Try.prog F.ref03_Names [.agg [.slice id off l.length 9 ex], .agg s.av] H (fun v h' => v = .tuple [.int .i64 0, .int .i64 0, .int .i64 (errS l s)] ∧ h' = H) := by
  have hid := rd_lt hs
  have he := errS_ne hb
  have kc := fun G => c_rboth (H ++ G) l s id off ex (by rw [rd_old _ hid]; exact hs) hn hc
  generalize errS l s = e at *
  simp only [sav_eq] at kc ⊢
  refine acalls_of ok_ref03_Names rfl fun hcl => ?_
  unfold ac_ref03_Names
  simp only [argsT, Nat.zero_add, Nat.reduceAdd]
  repeat (first|(with_reducible first|apply X1|apply X2|apply X8)|((with_reducible apply e_end);(simp;exact Red.rfl))|((with_reducible apply O1);rfl;(simp (disch:=omega);exact Red.rfl);exact Red.rfl;(focus (first|(simp;done)|omega|(simp;omega)))))
  (with_reducible apply e_call); (simp; exact Red.rfl); exact kc _
  rintro _ _ ⟨rfl, rfl⟩
  repeat (first|(with_reducible first|apply X1|apply X2|apply X3|apply X8|apply X9)|((with_reducible apply e_end);(simp;exact Red.rfl))|((with_reducible apply O1);rfl;(simp (disch:=omega) [he];exact Red.rfl);exact Red.rfl;(focus (first|(simp;done)|omega|(simp;omega))))|((with_reducible apply Z9);(simp (disch:=omega) [he];exact Red.rfl)))
  refine q_drop (.inr rfl) (by simp; exact Red.rfl) (by simp) ⟨rfl, rfl⟩
set_option maxHeartbeats 4000000 in
theorem c_rNames (H : Heap) (l : List Str) (s : Sl) (id off : Nat) (ex : Bool) (hs : rd H id off (l.length * 9) = some (l.flatMap Str.av)) (hv : validL l) (hk : s.ok) (hc : 0 ≤ s.c ∧ s.c ≤ 255) :
    ACalls Try.prog F.ref03_Names [.agg [.slice id off l.length 9 ex], .agg s.av] H (fun v h' => h' = H ∧ ((thN true s l = 0 ∧ v = .tuple [.int .i64 0, .int .i64 0, .int .i64 6]) ∨ (thN true s l ≠ 0 ∧ v = .tuple [.int .i64 (thC true s l), .int .i64 (dnV (nmR s l)), .int .i64 0]))) := by
  have hid := rd_lt hs
  have h12 := hv.1
  have kb := fun G => c_rboth (H ++ G) l s id off ex (by rw [rd_old _ hid]; exact hs) (by omega) hc
  rw [errS3 hv hk] at kb
  have kc := fun G (i : Nat) (b : Bool) hb => c_r3curve (H ++ G) l id off ex i (by rw [rd_old _ hid]; exact hs) hv (b := b) hb
  have kh := fun G i hi hcu => c_r3height (H ++ G) l s id off i ex (by rw [rd_old _ hid]; exact hs) hv hk hi hcu
  have ki := fun G i hi => c_r3inside (H ++ G) l s id off i ex (by rw [rd_old _ hid]; exact hs) hv hk hi
  have b1 : ∀ i, thrB true s l i = decide ((strAt l i).side ≠ 0 ∧ (strAt l i).wall < htF (wiF (hd true s l) i) (strAt l i).rLo s.t2) := fun _ => rfl
  have fin0 : (∀ i, i < l.length → thrB true s l i = false) → thN true s l = 0 := fun h => thN_zero.2 h
  have fin1 : ∀ i, i < l.length → thrB true s l i = true → (∀ j, j < i → thrB true s l j = false) → thN true s l ≠ 0 ∧ thC true s l = i := fun i hi h hj => by
    have h3 : thN true s l ≠ 0 := fun e => by have := thN_zero.1 e i hi; rw [h] at this; cases this
    have h4 := thC_is h3
    refine ⟨h3, ?_⟩
    rcases Nat.lt_trichotomy (thC true s l) i with h5 | h5 | h5
    · have := hj _ h5; rw [h4.2.1] at this; cases this
    · exact h5
    · have := h4.2.2 i h5; rw [h] at this; cases this
  have wb := fun {i : Nat} (hi : i < l.length) => wi_bd hv hk true hi
  have hnm : nmR s l = leastF (thrP true s l (thC true s l)) (wiF (hd true s l) (thC true s l)).toNat := rfl
  have hpm := fun {i : Nat} (hr : 1 ≤ (strAt l i).rLo) {x y : Int} (hx : 0 ≤ x) (hxy : x ≤ y) (h : thrP true s l i x = true) => thrP_mono (t := true) (s := s) (l := l) (i := i) hr hx hxy h
  have hp : ∀ i x, thrP true s l i x = decide ((strAt l i).wall < htF x (strAt l i).rLo s.t2) := fun _ _ => rfl
  generalize thrB true s l = Q at *
  generalize nmR s l = nm at *
  generalize thC true s l = tc at *
  generalize thN true s l = tn at *
  generalize hwf : wiF (hd false s l) = wf at *
  generalize hwt : wiF (hd true s l) = wt at *
  simp only [sav_eq] at kb kh ki ⊢
  refine acalls_of ok_ref03_Names rfl fun hcl => ?_
  unfold ac_ref03_Names
  simp only [argsT, Nat.zero_add, Nat.reduceAdd]
  repeat (first|(with_reducible first|apply X1|apply X2|apply X8)|((with_reducible apply e_end);(simp;exact Red.rfl))|((with_reducible apply O1);rfl;(simp (disch:=omega);exact Red.rfl);exact Red.rfl;(focus (first|(simp;done)|omega|(simp;omega)))))
  (with_reducible apply e_call); (simp; exact Red.rfl); exact kb _
  rintro _ _ ⟨rfl, rfl⟩
  repeat (first|(with_reducible first|apply X1|apply X2|apply X5|apply X6|apply X8)|((with_reducible apply e_end);(simp;exact Red.rfl))|((with_reducible apply O1);rfl;(simp (disch:=omega);exact Red.rfl);exact Red.rfl;(focus (first|(simp;done)|omega|(simp;omega))))|((with_reducible apply W3);(simp (disch:=omega);exact Red.rfl)))
  refine e_loop (ι := { x : Nat // x ≤ l.length ∧ (∀ j, j < x → Q j = false) })
    (fun x => [(2, .ptr H.length 0), (3, .ptr (H.length + 1) 0), (8, .int .i64 x.1)])
    (fun x => H ++ [.cells [.slice id off l.length 9 ex] true, .cells [.int .u8 s.c, .int .i64 s.s1, .int .i64 s.s2, .int .i64 s.r1, .int .i64 s.r2, .int .i64 s.d1, .int .i64 s.d2, .int .i64 s.w1, .int .i64 s.w2, .int .i64 s.t1, .int .i64 s.t2] true]) (fun x => l.length - x.1) ⟨0, by simp, by simp⟩ ?_ ?_
  · exact .inl rfl
  · rintro ⟨i, hi, hQ⟩
    dsimp only at hi hQ ⊢
    by_cases hlt : i < l.length
    · have hlt2 : (i : Int) < l.length := by omega
      have stepQ : Q i = false → ∀ j, j < i + 1 → Q j = false := fun h j hj => by
        rcases Nat.lt_or_ge j i with h1 | h1
        · exact hQ j h1
        · obtain rfl : j = i := by omega
          exact h
      have b1 := b1 i
      have hx := rd_row Str.av_length hs hlt
      have hst := strAt_eq hlt
      by_cases hside : (strAt l i).side = 0
      · have kc := fun G => kc G i false (by simp [hside])
        have p1 : Q i = false := by rw [b1]; simp [hside]
        generalize l[i] = y at hx
        obtain ⟨a1, a2, a3, a4, a5, a6, a7, a8, a9⟩ := y
        simp only [Str.av] at hx
        repeat (first|(with_reducible first|apply X1|apply X2|apply X5|apply X6|apply X8|apply Y9)|((with_reducible apply e_end);(simp;exact Red.rfl))|((first|((with_reducible apply O1);rfl)|((with_reducible apply O2);rfl)|((with_reducible apply P1);rfl)|((with_reducible apply P2);rfl));(simp (disch:=omega) [hlt, hlt2, rd_old _ hid, hx];exact Red.rfl);exact Red.rfl;(focus (first|(simp;done)|omega|(simp;omega))))|((with_reducible apply Z9);(simp (disch:=omega) [hlt, hlt2, rd_old _ hid, hx];exact Red.rfl)))
        (with_reducible apply d_call); (simp; exact Red.rfl); exact kc _; (focus (first | (simp; done) | (simp; omega)))
        repeat (first|(with_reducible first|apply X2|apply X4|apply X8|apply Y1|apply Y4)|((with_reducible first|apply e_end|apply d_end);(simp;exact Red.rfl))|((first|((with_reducible apply O1);rfl)|((with_reducible apply P1);rfl));(simp (disch:=omega);exact Red.rfl);exact Red.rfl;(focus (first|(simp;done)|omega|(simp;omega))))|((with_reducible apply Z9);(simp (disch:=omega);exact Red.rfl))|((with_reducible apply Z6);(simp (disch:=omega);exact Red.rfl)))
        exact q_again ⟨i + 1, by omega, stepQ p1⟩ (by dsimp only; omega) (.inr <| le_take (G := [_, _]) (by simp [hid]; omega) (by simp [hid, Red]))
      · have kc := fun G => kc G i true (by simp only [true_iff, Int.toNat_natCast]; exact ⟨by omega, by omega, hside⟩)
        have kh := fun G => kh G i hlt hside
        have ki := fun G => ki G i hlt
        have hR := curve_rad hv hlt hside
        have hpm := fun {x y : Int} => hpm (i := i) (show 1 ≤ (strAt l i).rLo by omega) (x := x) (y := y)
        have hp := hp i
        have wb := wb hlt
        rw [hst] at b1 kh hp hR hside
        generalize hyy : l[i] = y at *
        obtain ⟨a1, a2, a3, a4, a5, a6, a7, a8, a9⟩ := y
        simp only [Str.av] at hx
        simp only at b1 kh hp hR hside
        repeat (first|(with_reducible first|apply X1|apply X2|apply X5|apply X6|apply X8|apply Y9)|((with_reducible apply e_end);(simp;exact Red.rfl))|((first|((with_reducible apply O1);rfl)|((with_reducible apply O2);rfl)|((with_reducible apply P1);rfl)|((with_reducible apply P2);rfl));(simp (disch:=omega) [hlt, hlt2, rd_old _ hid, hx];exact Red.rfl);exact Red.rfl;(focus (first|(simp;done)|omega|(simp;omega))))|((with_reducible apply Z9);(simp (disch:=omega) [hlt, hlt2, rd_old _ hid, hx];exact Red.rfl)))
        (with_reducible apply d_call); (simp; exact Red.rfl); exact kc _; (focus (first | (simp; done) | (simp; omega)))
        repeat (first|((first|((with_reducible apply P1);rfl)|((with_reducible apply P2);rfl));(simp (disch:=omega);exact Red.rfl);exact Red.rfl;(focus (first|(simp;done)|omega|(simp;omega))))|((with_reducible apply Z8);(simp (disch:=omega);exact Red.rfl)))
        (with_reducible apply d_call); (simp; exact Red.rfl); exact kh _; (focus (first | (simp; done) | (simp; omega)))
        by_cases hgt : htF (wt i) a6 s.t2 ≤ a9
        · have p1 : Q i = false := by rw [b1]; simp [hgt]
          repeat (first|(with_reducible first|apply X2|apply X4|apply X8|apply Y1|apply Y4)|((with_reducible first|apply e_end|apply d_end);(simp;exact Red.rfl))|((first|((with_reducible apply O1);rfl)|((with_reducible apply P1);rfl));(simp (disch:=omega) [hgt];exact Red.rfl);exact Red.rfl;(focus (first|(simp;done)|omega|(simp;omega))))|((with_reducible first|apply Z8|apply Z9);(simp (disch:=omega) [hgt];exact Red.rfl))|((with_reducible apply P6);rfl;(simp (disch:=omega) [hgt];exact Red.rfl);exact Red.rfl;(focus (first|(simp [pr];done)|(simp [pr];omega)))))
          exact q_again ⟨i + 1, by omega, stepQ p1⟩ (by dsimp only; omega) (.inr <| le_take (G := [_, _]) (by simp [hid]; omega) (by simp [hid, Red]))
        · have p1 : Q i = true := by rw [b1]; simp [hside]; omega
          obtain ⟨htn, htc⟩ := fin1 i hlt p1 hQ
          rw [htc] at hnm ⊢
          have hw2 : ((wt i).toNat : Int) = wt i := Int.toNat_of_nonneg wb.1
          have lu : ∀ r : Int, 0 ≤ r → r ≤ wt i → (∀ m, 0 ≤ m → m < r → thrP true s l i m = false) → (∀ m, r ≤ m → m < wt i → thrP true s l i m = true) → r = nm := fun r h1 h2 h3 h4 => by
            rw [hnm]; exact least_uniq h1 (by omega) h3 (fun m a b => h4 m a (by omega))
          generalize thrP true s l i = p at *
          have ht := hk.2.2.2.2.2
          repeat (first|(with_reducible first|apply X1|apply X2|apply X5|apply X8)|((with_reducible apply d_end);(simp;exact Red.rfl))|((first|((with_reducible apply O1);rfl)|((with_reducible apply P1);rfl));(simp (disch:=omega) [hgt];exact Red.rfl);exact Red.rfl;(focus (first|(simp;done)|omega|(simp;omega))))|((with_reducible apply Z8);(simp (disch:=omega) [hgt];exact Red.rfl))|((with_reducible apply W3);(simp (disch:=omega) [hgt];exact Red.rfl))|((with_reducible apply P6);rfl;(simp (disch:=omega) [hgt];exact Red.rfl);exact Red.rfl;(focus (first|(simp [pr];done)|(simp [pr];omega)))))
          (with_reducible apply e_call); (simp; exact Red.rfl); exact ki _
          rintro _ _ ⟨rfl, rfl⟩
          repeat (first|(with_reducible first|apply X1|apply X6|apply X8)|((with_reducible apply e_end);(simp;exact Red.rfl))|((with_reducible apply O1);rfl;(simp (disch:=omega);exact Red.rfl);exact Red.rfl;(focus (first|(simp;done)|omega|(simp;omega)))))
          refine e_loop (ι := { y : Int × Int // (0 ≤ y.1 ∧ y.1 ≤ y.2 ∧ y.2 ≤ wt i) ∧ (∀ m, 0 ≤ m → m < y.1 → p m = false) ∧ (∀ m, y.2 ≤ m → m < wt i → p m = true) })
            (fun y => [(3, .ptr (H.length + 1) 0), (8, .int .i64 i), (9, .ptr (H.length + 2) 0), (10, .int .i64 y.1.1), (11, .int .i64 y.1.2)])
            (fun y => H ++ [.cells [.slice id off l.length 9 ex] true, .cells [.int .u8 s.c, .int .i64 s.s1, .int .i64 s.s2, .int .i64 s.r1, .int .i64 s.r2, .int .i64 s.d1, .int .i64 s.d2, .int .i64 s.w1, .int .i64 s.w2, .int .i64 s.t1, .int .i64 s.t2] true, .cells [.int .i64 a1, .int .i64 a2, .int .i64 a3, .int .i64 a4, .int .i64 a5, .int .i64 a6, .int .i64 a7, .int .u8 a8, .int .i64 a9] true]) (fun y => (y.1.2 - y.1.1).toNat) ⟨(0, wt i), ⟨Int.le_refl _, wb.1, Int.le_refl _⟩, fun m h1 h2 => by have h3 : m < 0 := h2; omega, fun m h1 h2 => by have h3 : wt i ≤ m := h1; omega⟩ ?_ ?_
          · exact .inl rfl
          · rintro ⟨⟨lo, hi2⟩, hb, hlo, hhi⟩
            dsimp only at hb hlo hhi ⊢
            by_cases hll : lo < hi2
            · have hmq : (lo + hi2).tdiv 2 = (lo + hi2) / 2 := Int.tdiv_eq_ediv_of_nonneg (by omega)
              obtain ⟨m, hm⟩ : ∃ m, (lo + hi2) / 2 = m := ⟨_, rfl⟩
              have hm1 : lo ≤ m ∧ m < hi2 := by omega
              have hmw : IntKind.i64.wrap ((lo + hi2).tdiv 2) = m := by rw [hmq, hm, wrap64] <;> omega
              have q1 : (1200 * m).tdiv (10 * a6) = 1200 * m / (10 * a6) := Int.tdiv_eq_ediv_of_nonneg (by omega)
              have q3 := Int.ediv_le_self (a := 1200 * m) (10 * a6) (by omega)
              have q5 := Int.ediv_nonneg (a := 1200 * m) (b := 10 * a6) (by omega) (by omega)
              obtain ⟨z, hz0⟩ : ∃ z, 1200 * m / (10 * a6) = z := ⟨_, rfl⟩
              rw [hz0] at q1 q3 q5
              have hpv : p m = true ↔ a9 < z + s.t2 := by
                have h := hp m
                rw [h, decide_eq_true_eq]
                simp only [htF, hz0]
              by_cases hz : a9 < z + s.t2
              · have hpt : p m = true := hpv.2 hz
                repeat (first|(with_reducible first|apply X1|apply X2|apply X5|apply X6|apply X8|apply Y2|apply Y9)|((with_reducible first|apply e_end|apply d_end);(simp;exact Red.rfl))|((first|((with_reducible apply O1);rfl)|((with_reducible apply P1);rfl)|((with_reducible apply P2);rfl));(simp (disch:=omega) [hll, hmw, q1, hz];exact Red.rfl);exact Red.rfl;(focus (first|(simp;done)|omega|(simp;omega))))|((with_reducible apply Z9);(simp (disch:=omega) [hll, hmw, q1, hz];exact Red.rfl)))
                exact q_again ⟨(lo, m), by dsimp only; omega, hlo, fun x h1 h2 => hpm (by dsimp only at h1; omega) h1 hpt⟩ (by dsimp only; omega) (.inl rfl)
              · have hpf : p m = false := by cases e : p m with | false => rfl | true => exact absurd (hpv.1 e) hz
                have step : ∀ x, 0 ≤ x → x < m + 1 → p x = false := fun x h1 h2 => by
                  cases e : p x with
                  | false => rfl
                  | true =>
                    have := hpm h1 (show x ≤ m by omega) e
                    rw [hpf] at this; cases this
                repeat (first|(with_reducible first|apply X1|apply X2|apply X5|apply X6|apply X8|apply Y2|apply Y9)|((with_reducible first|apply e_end|apply d_end);(simp;exact Red.rfl))|((first|((with_reducible apply O1);rfl)|((with_reducible apply P1);rfl)|((with_reducible apply P2);rfl));(simp (disch:=omega) [hll, hmw, q1, hz];exact Red.rfl);exact Red.rfl;(focus (first|(simp;done)|omega|(simp;omega))))|((with_reducible apply Z9);(simp (disch:=omega) [hll, hmw, q1, hz];exact Red.rfl))|((with_reducible apply W3);(simp (disch:=omega) [hll, hmw, q1, hz];exact Red.rfl)))
                exact q_again ⟨(m + 1, hi2), by dsimp only; omega, step, hhi⟩ (by dsimp only; omega) (.inl rfl)
            · obtain rfl : lo = hi2 := by omega
              have hnm2 := lu lo hb.1 hb.2.2 hlo hhi
              repeat (first|(with_reducible first|apply X1|apply X2|apply X4|apply X8|apply Y1|apply Y4|apply Y6)|((with_reducible apply e_end);(simp;exact Red.rfl))|((with_reducible apply O1);rfl;(simp (disch:=omega) [hll];exact Red.rfl);exact Red.rfl;(focus (first|(simp;done)|omega|(simp;omega))))|((with_reducible apply W3);(simp (disch:=omega) [hll];exact Red.rfl)))
              (with_reducible apply e_call); (simp; exact Red.rfl); exact c_slow _ lo (by omega)
              rintro _ _ ⟨rfl, rfl⟩
              repeat (first|(with_reducible first|apply X3|apply X8|apply X9|apply Y3|apply Y5)|((with_reducible apply e_end);(simp;exact Red.rfl))|((with_reducible apply O1);rfl;(simp (disch:=omega);exact Red.rfl);exact Red.rfl;(focus (first|(simp;done)|omega|(simp;omega)))))
              refine q_drop (.inr rfl) (by simp; exact Red.rfl) (by simp) ⟨rfl, .inr ⟨htn, by rw [hnm2]⟩⟩
    · have hlt2 : ¬ (i : Int) < l.length := by omega
      obtain rfl : i = l.length := by omega
      repeat (first|(with_reducible first|apply X1|apply X2|apply X3|apply X4|apply X8|apply Y1|apply Y4|apply Y6)|((with_reducible apply e_end);(simp;exact Red.rfl))|((with_reducible apply O1);rfl;(simp (disch:=omega) [hlt2];exact Red.rfl);exact Red.rfl;(focus (first|(simp;done)|omega|(simp;omega))))|((with_reducible apply W3);(simp (disch:=omega) [hlt2];exact Red.rfl)))
      refine q_drop (.inr rfl) (by simp; exact Red.rfl) (by simp) ⟨rfl, .inl ⟨fin0 hQ, rfl⟩⟩
end Go.Proofs
/- The law SlideSafes: the greatest start, by the reference. -/
namespace Go.Proofs
open Go.Abs
attribute [local simp] AOp.den AOpd.ev lk cellsOf rd_new rd_new0 rd_zero rd_succ wr_new wr_new0 wr_zero wr_succ splice fillA binA scal sliceCells List.length_append argsT AV.sc scL AObj.sc resV getAll AR.get AOp.slots opdSlots opdsSlots partSlots eqAt at_new0 at_new set_new0 set_new wrap64
set_option linter.unusedSimpArgs false
set_option linter.unusedVariables false
theorem names_both (l : List Str) (s : Sl) (hn : (l.length : Int) < 1000000) (hc : 0 ≤ s.c ∧ s.c ≤ 255) : ∃ p q e : Int, (0 ≤ e ∧ e ≤ 100) ∧ ∀ (H : Heap) (id off : Nat) (ex : Bool), rd H id off (l.length * 9) = some (l.flatMap Str.av) →
    ACalls Try.prog F.slide_Names [.agg [.slice id off l.length 9 ex], .agg s.av] H (fun v h' => v = .tuple [.int .i64 p, .int .i64 q, .int .i64 e] ∧ h' = H) ∧ ACalls Try.prog F.ref03_Names [.agg [.slice id off l.length 9 ex], .agg s.av] H (fun v h' => v = .tuple [.int .i64 p, .int .i64 q, .int .i64 e] ∧ h' = H) := by
  by_cases hb : validL l ∧ s.ok
  · obtain ⟨hv, hk⟩ := hb
    by_cases h0 : thN true s l = 0
    · refine ⟨0, 0, 6, by omega, fun H id off ex hs => ⟨(c_Names H l id off ex s hs hv hk).mono ?_, (c_rNames H l s id off ex hs hv hk hc).mono ?_⟩⟩
      · rintro v h ⟨rfl, ⟨_, rfl⟩ | ⟨h1, _⟩⟩
        · exact ⟨rfl, rfl⟩
        · exact absurd h0 h1
      · rintro v h ⟨rfl, ⟨_, rfl⟩ | ⟨h1, _⟩⟩
        · exact ⟨rfl, rfl⟩
        · exact absurd h0 h1
    · refine ⟨thC true s l, dnV (nmR s l), 0, by omega, fun H id off ex hs => ⟨(c_Names H l id off ex s hs hv hk).mono ?_, (c_rNames H l s id off ex hs hv hk hc).mono ?_⟩⟩
      · rintro v h ⟨rfl, ⟨h1, _⟩ | ⟨_, rfl⟩⟩
        · exact absurd h1 h0
        · exact ⟨rfl, rfl⟩
      · rintro v h ⟨rfl, ⟨h1, _⟩ | ⟨_, rfl⟩⟩
        · exact absurd h1 h0
        · exact ⟨rfl, rfl⟩
  · exact ⟨0, 0, errS l s, errS_bd l s, fun H id off ex hs => ⟨c_NamesX H l s id off ex hs hn hb, c_rNamesX H l s id off ex hs hn hc hb⟩⟩
theorem c_StartX (H : Heap) (l : List Str) (s : Sl) (id off : Nat) (ex : Bool) (hs : rd H id off (l.length * 9) = some (l.flatMap Str.av)) (hn : (l.length : Int) < 1000000) (hb : ¬ (validL l ∧ s.ok)) :
    ACalls Try.prog F.slide_Start [.agg [.slice id off l.length 9 ex], .agg s.av] H (fun v h' => v = .tuple [.int .i64 0, .int .i64 (errS l s)] ∧ h' = H) := by
  have hid := rd_lt hs
  have he := errS_ne hb
  have kc := fun G xid h => c_check1 (H ++ G) l id off ex s xid 0 true (by rw [rd_old _ hid]; exact hs) hn h
  generalize errS l s = e at *
  simp only [sav_eq] at kc ⊢
  refine acalls_of ok_slide_Start rfl fun hcl => ?_
  unfold ac_slide_Start
  simp only [argsT, Nat.zero_add, Nat.reduceAdd]
  repeat (first|(with_reducible first|apply X1|apply X2|apply X8)|((with_reducible apply e_end);(simp;exact Red.rfl))|((with_reducible apply O1);rfl;(simp (disch:=omega);exact Red.rfl);exact Red.rfl;(focus (first|(simp;done)|omega|(simp;omega)))))
  (with_reducible apply e_call); (simp; exact Red.rfl); exact kc _ _ (by simp)
  rintro _ _ ⟨rfl, rfl⟩
  repeat (first|(with_reducible first|apply X1|apply X2|apply X3|apply X8|apply X9)|((with_reducible apply e_end);(simp;exact Red.rfl))|((with_reducible apply O1);rfl;(simp (disch:=omega) [he];exact Red.rfl);exact Red.rfl;(focus (first|(simp;done)|omega|(simp;omega))))|((with_reducible apply Z9);(simp (disch:=omega) [he];exact Red.rfl)))
  refine q_drop (.inr rfl) (by simp; exact Red.rfl) (by simp) ⟨rfl, rfl⟩
theorem c_rStartX (H : Heap) (l : List Str) (s : Sl) (id off : Nat) (ex : Bool) (hs : rd H id off (l.length * 9) = some (l.flatMap Str.av)) (hn : (l.length : Int) < 1000000) (hc : 0 ≤ s.c ∧ s.c ≤ 255) (hb : ¬ (validL l ∧ s.ok)) :
    ACalls Try.prog F.ref03_Start [.agg [.slice id off l.length 9 ex], .agg s.av] H (fun v h' => v = .tuple [.int .i64 0, .int .i64 (errS l s)] ∧ h' = H) := by
  have hid := rd_lt hs
  have he := errS_ne hb
  have kc := fun G => c_rboth (H ++ G) l s id off ex (by rw [rd_old _ hid]; exact hs) hn hc
  generalize errS l s = e at *
  simp only [sav_eq] at kc ⊢
  refine acalls_of ok_ref03_Start rfl fun hcl => ?_
  unfold ac_ref03_Start
  simp only [argsT, Nat.zero_add, Nat.reduceAdd]
  repeat (first|(with_reducible first|apply X1|apply X2|apply X8)|((with_reducible apply e_end);(simp;exact Red.rfl))|((with_reducible apply O1);rfl;(simp (disch:=omega);exact Red.rfl);exact Red.rfl;(focus (first|(simp;done)|omega|(simp;omega)))))
  (with_reducible apply e_call); (simp; exact Red.rfl); exact kc _
  rintro _ _ ⟨rfl, rfl⟩
  repeat (first|(with_reducible first|apply X1|apply X2|apply X3|apply X8|apply X9)|((with_reducible apply e_end);(simp;exact Red.rfl))|((with_reducible apply O1);rfl;(simp (disch:=omega) [he];exact Red.rfl);exact Red.rfl;(focus (first|(simp;done)|omega|(simp;omega))))|((with_reducible apply Z9);(simp (disch:=omega) [he];exact Red.rfl)))
  refine q_drop (.inr rfl) (by simp; exact Red.rfl) (by simp) ⟨rfl, rfl⟩
theorem c_r3from (H : Heap) (s : Sl) (m : Int) : ACalls Try.prog F.ref03_from [.agg s.av, .int .i64 m] H (fun v h' => v = .agg (stS s m).av ∧ h' = H) := by
  simp only [sav_eq, stS]
  refine acalls_of ok_ref03_from rfl fun hcl => ?_
  unfold ac_ref03_from
  simp only [argsT, Nat.zero_add, Nat.reduceAdd]
  repeat (first|(with_reducible first|apply X1|apply X2|apply X3|apply X8)|((with_reducible apply e_end);(simp;exact Red.rfl))|((first|((with_reducible apply O1);rfl)|((with_reducible apply O2);rfl));(simp (disch:=omega);exact Red.rfl);exact Red.rfl;(focus (first|(simp;done)|omega|(simp;omega)))))
  refine q_drop (.inr rfl) (by simp; exact Red.rfl) (by simp) ⟨rfl, rfl⟩
theorem stP_kn {s : Sl} {l : List Str} {m : Int} : knF (stS s m) l = 2 ↔ stP s l m = false := by
  unfold knF stP
  split
  · simp [*]
  · split <;> simp [*]
set_option maxHeartbeats 4000000 in
theorem c_rStart (H : Heap) (l : List Str) (s : Sl) (id off : Nat) (ex : Bool) (hs : rd H id off (l.length * 9) = some (l.flatMap Str.av)) (hv : validL l) (hk : s.ok) (hc : 0 ≤ s.c ∧ s.c ≤ 255) :
    ACalls Try.prog F.ref03_Start [.agg [.slice id off l.length 9 ex], .agg s.av] H (fun v h' => h' = H ∧ ((leastF (stP s l) 200001 = 0 ∧ v = .tuple [.int .i64 0, .int .i64 6]) ∨ (leastF (stP s l) 200001 ≠ 0 ∧ v = .tuple [.int .i64 ((leastF (stP s l) 200001 : Nat) - 1), .int .i64 0]))) := by
  have hid := rd_lt hs
  have h12 := hv.1
  have kb := fun G => c_rboth (H ++ G) l s id off ex (by rw [rd_old _ hid]; exact hs) (by omega) hc
  rw [errS3 hv hk] at kb
  have kf := fun G m => c_r3from G s m
  have ks := fun G {m : Int} (hm : 0 ≤ m ∧ m ≤ 200000) => c_r3safe (H ++ G) l (stS s m) id off ex (by rw [rd_old _ hid]; exact hs) hv (st_ok hk hm)
  have kn := fun {m : Int} => stP_kn (s := s) (l := l) (m := m)
  have kbd := fun {m : Int} => knF_bd (stS s m) l
  have mono := fun {a b : Int} ha hab hb h => stP_mono (a := a) (b := b) hv hk ha hab hb h
  have lu : ∀ r : Int, 0 ≤ r → r ≤ 200001 → (∀ m, 0 ≤ m → m < r → stP s l m = false) → (∀ m, r ≤ m → m < 200001 → stP s l m = true) → r = leastF (stP s l) 200001 := fun r h1 h2 h3 h4 => least_uniq h1 h2 h3 h4
  generalize leastF (stP s l) 200001 = r0 at *
  generalize stP s l = p at *
  simp only [sav_eq, stS] at kb kf ks ⊢
  refine acalls_of ok_ref03_Start rfl fun hcl => ?_
  unfold ac_ref03_Start
  simp only [argsT, Nat.zero_add, Nat.reduceAdd]
  repeat (first|(with_reducible first|apply X1|apply X2|apply X8)|((with_reducible apply e_end);(simp;exact Red.rfl))|((with_reducible apply O1);rfl;(simp (disch:=omega);exact Red.rfl);exact Red.rfl;(focus (first|(simp;done)|omega|(simp;omega)))))
  (with_reducible apply e_call); (simp; exact Red.rfl); exact kb _
  rintro _ _ ⟨rfl, rfl⟩
  repeat (first|(with_reducible first|apply X1|apply X2|apply X5|apply X8|apply Y9)|((with_reducible apply e_end);(simp;exact Red.rfl))|((first|((with_reducible apply O1);rfl)|((with_reducible apply P2);rfl));(simp (disch:=omega);exact Red.rfl);exact Red.rfl;(focus (first|(simp;done)|omega|(simp;omega))))|((with_reducible apply W3);(simp (disch:=omega);exact Red.rfl)))
  (with_reducible apply d_call); (simp; exact Red.rfl); exact kf _ _; (focus (first | (simp; done) | (simp; omega)))
  skip
  (with_reducible apply d_call); (simp; exact Red.rfl); exact ks _ (by omega); (focus (first | (simp; done) | (simp; omega)))
  by_cases h0 : p 0 = true
  · have hk2 : ¬ knF (stS s 0) l = 2 := fun h => by have := kn.1 h; rw [h0] at this; cases this
    simp only [stS] at hk2
    have hr := lu 0 (by omega) (by omega) (fun m a b => by omega) (fun m a b => mono (by omega) a (by omega) h0)
    repeat (first|(with_reducible first|apply X1|apply X2|apply X3|apply X8|apply X9)|((with_reducible first|apply e_end|apply d_end);(simp;exact Red.rfl))|((first|((with_reducible apply O1);rfl)|((with_reducible apply P1);rfl));(simp (disch:=omega) [hk2];exact Red.rfl);exact Red.rfl;(focus (first|(simp;done)|omega|(simp;omega))))|((with_reducible apply Z9);(simp (disch:=omega) [hk2];exact Red.rfl)))
    refine q_drop (.inr rfl) (by simp; exact Red.rfl) (by simp) ⟨rfl, .inl ⟨by omega, rfl⟩⟩
  · have h0 : p 0 = false := by cases e : p 0 with | false => rfl | true => exact absurd e h0
    have hk2 : knF (stS s 0) l = 2 := kn.2 h0
    simp only [stS] at hk2
    repeat (first|(with_reducible first|apply X1|apply X2|apply X5|apply X6|apply X8)|((with_reducible first|apply e_end|apply d_end);(simp;exact Red.rfl))|((first|((with_reducible apply O1);rfl)|((with_reducible apply P1);rfl));(simp (disch:=omega) [hk2];exact Red.rfl);exact Red.rfl;(focus (first|(simp;done)|omega|(simp;omega))))|((with_reducible apply W3);(simp (disch:=omega) [hk2];exact Red.rfl)))
    refine e_loop (ι := { y : Int × Int // (0 ≤ y.1 ∧ y.1 ≤ y.2 ∧ y.2 ≤ 200000) ∧ (∀ m, 0 ≤ m → m ≤ y.1 → p m = false) ∧ (∀ m, y.2 < m → m ≤ 200000 → p m = true) })
      (fun y => [(2, .ptr H.length 0), (3, .ptr (H.length + 1) 0), (7, .int .i64 y.1.1), (8, .int .i64 y.1.2)])
      (fun _ => H ++ [.cells [.slice id off l.length 9 ex] true, .cells [.int .u8 s.c, .int .i64 s.s1, .int .i64 s.s2, .int .i64 s.r1, .int .i64 s.r2, .int .i64 s.d1, .int .i64 s.d2, .int .i64 s.w1, .int .i64 s.w2, .int .i64 s.t1, .int .i64 s.t2] true]) (fun y => (y.1.2 - y.1.1).toNat) ⟨(0, 200000), ⟨Int.le_refl _, by decide, Int.le_refl _⟩, fun m h1 h2 => by
        have h3 : m ≤ 0 := h2
        obtain rfl : m = 0 := by omega
        exact h0, fun m h1 h2 => by have h3 : 200000 < m := h1; omega⟩ ?_ ?_
    · exact .inl rfl
    · rintro ⟨⟨lo, hi2⟩, hb, hlo, hhi⟩
      dsimp only at hb hlo hhi ⊢
      by_cases hll : lo < hi2
      · have hmq : (lo + hi2 + 1).tdiv 2 = (lo + hi2 + 1) / 2 := Int.tdiv_eq_ediv_of_nonneg (by omega)
        obtain ⟨m, hm⟩ : ∃ m, (lo + hi2 + 1) / 2 = m := ⟨_, rfl⟩
        have hm1 : lo < m ∧ m ≤ hi2 := by omega
        have hmw : IntKind.i64.wrap ((lo + hi2 + 1).tdiv 2) = m := by rw [hmq, hm, wrap64] <;> omega
        repeat (first|(with_reducible first|apply X1|apply X2|apply X5|apply X6|apply X8|apply Y9)|((with_reducible apply e_end);(simp;exact Red.rfl))|((first|((with_reducible apply O1);rfl)|((with_reducible apply P1);rfl)|((with_reducible apply P2);rfl));(simp (disch:=omega) [hll, hmw];exact Red.rfl);exact Red.rfl;(focus (first|(simp;done)|omega|(simp;omega))))|((with_reducible apply Z9);(simp (disch:=omega) [hll, hmw];exact Red.rfl)))
        (with_reducible apply d_call); (simp; exact Red.rfl); exact kf _ _; (focus (first | (simp; done) | (simp; omega)))
        skip
        (with_reducible apply d_call); (simp; exact Red.rfl); exact ks _ (by omega); (focus (first | (simp; done) | (simp; omega)))
        by_cases hpm : p m = true
        · have hk3 : ¬ knF (stS s m) l = 2 := fun h => by have := kn.1 h; rw [hpm] at this; cases this
          simp only [stS] at hk3
          repeat (first|(with_reducible first|apply X2|apply X8|apply Y2)|((with_reducible first|apply e_end|apply d_end);(simp;exact Red.rfl))|((first|((with_reducible apply O1);rfl)|((with_reducible apply P1);rfl));(simp (disch:=omega) [hk3];exact Red.rfl);exact Red.rfl;(focus (first|(simp;done)|omega|(simp;omega))))|((with_reducible apply W3);(simp (disch:=omega) [hk3];exact Red.rfl)))
          exact q_again ⟨(lo, m - 1), by dsimp only; omega, hlo, fun x h1 h2 => mono (a := m) (by omega) (by dsimp only at h1; omega) h2 hpm⟩ (by dsimp only; omega) (.inl rfl)
        · have hpf : p m = false := by cases e : p m with | false => rfl | true => exact absurd e hpm
          have hk3 : knF (stS s m) l = 2 := kn.2 hpf
          simp only [stS] at hk3
          have step : ∀ x, 0 ≤ x → x ≤ m → p x = false := fun x h1 h2 => by
            cases e : p x with
            | false => rfl
            | true => exact absurd (mono h1 h2 (by omega) e) hpm
          repeat (first|(with_reducible first|apply X2|apply X8|apply Y2)|((with_reducible first|apply e_end|apply d_end);(simp;exact Red.rfl))|((first|((with_reducible apply O1);rfl)|((with_reducible apply P1);rfl));(simp (disch:=omega) [hk3];exact Red.rfl);exact Red.rfl;(focus (first|(simp;done)|omega|(simp;omega))))|((with_reducible apply Z9);(simp (disch:=omega) [hk3];exact Red.rfl)))
          exact q_again ⟨(m, hi2), by dsimp only; omega, step, hhi⟩ (by dsimp only; omega) (.inl rfl)
      · obtain rfl : lo = hi2 := by omega
        have hr := lu (lo + 1) (by omega) (by omega) (fun m a b => hlo m a (by omega)) (fun m a b => hhi m (by omega) (by omega))
        repeat (first|(with_reducible first|apply X1|apply X2|apply X3|apply X4|apply X8|apply Y1|apply Y4|apply Y6)|((with_reducible apply e_end);(simp;exact Red.rfl))|((with_reducible apply O1);rfl;(simp (disch:=omega) [hll];exact Red.rfl);exact Red.rfl;(focus (first|(simp;done)|omega|(simp;omega))))|((with_reducible apply W3);(simp (disch:=omega) [hll];exact Red.rfl)))
        refine q_drop (.inr rfl) (by simp; exact Red.rfl) (by simp) ⟨rfl, .inr ⟨by omega, by rw [← hr, Int.add_sub_cancel]⟩⟩
theorem start_both (l : List Str) (s : Sl) (hn : (l.length : Int) < 1000000) (hc : 0 ≤ s.c ∧ s.c ≤ 255) : ∃ p e : Int, (0 ≤ e ∧ e ≤ 100) ∧ ∀ (H : Heap) (id off : Nat) (ex : Bool), rd H id off (l.length * 9) = some (l.flatMap Str.av) →
    ACalls Try.prog F.slide_Start [.agg [.slice id off l.length 9 ex], .agg s.av] H (fun v h' => v = .tuple [.int .i64 p, .int .i64 e] ∧ h' = H) ∧ ACalls Try.prog F.ref03_Start [.agg [.slice id off l.length 9 ex], .agg s.av] H (fun v h' => v = .tuple [.int .i64 p, .int .i64 e] ∧ h' = H) := by
  by_cases hb : validL l ∧ s.ok
  · obtain ⟨hv, hk⟩ := hb
    by_cases h0 : leastF (stP s l) 200001 = 0
    · refine ⟨0, 6, by omega, fun H id off ex hs => ⟨(c_Start H l id off ex s hs hv hk).mono ?_, (c_rStart H l s id off ex hs hv hk hc).mono ?_⟩⟩
      · rintro v h ⟨rfl, ⟨_, rfl⟩ | ⟨h1, _⟩⟩
        · exact ⟨rfl, rfl⟩
        · exact absurd h0 h1
      · rintro v h ⟨rfl, ⟨_, rfl⟩ | ⟨h1, _⟩⟩
        · exact ⟨rfl, rfl⟩
        · exact absurd h0 h1
    · refine ⟨(leastF (stP s l) 200001 : Nat) - 1, 0, by omega, fun H id off ex hs => ⟨(c_Start H l id off ex s hs hv hk).mono ?_, (c_rStart H l s id off ex hs hv hk hc).mono ?_⟩⟩
      · rintro v h ⟨rfl, ⟨h1, _⟩ | ⟨_, rfl⟩⟩
        · exact absurd h1 h0
        · exact ⟨rfl, rfl⟩
      · rintro v h ⟨rfl, ⟨h1, _⟩ | ⟨_, rfl⟩⟩
        · exact absurd h1 h0
        · exact ⟨rfl, rfl⟩
  · exact ⟨0, errS l s, errS_bd l s, fun H id off ex hs => ⟨c_StartX H l s id off ex hs hn hb, c_rStartX H l s id off ex hs hn hc hb⟩⟩
end Go.Proofs
/- The law SlideSafes: walls, and sleds that are not safe, by the reference. -/
namespace Go.Proofs
open Go.Abs
attribute [local simp] AOp.den AOpd.ev lk cellsOf rd_new rd_new0 rd_zero rd_succ wr_new wr_new0 wr_zero wr_succ splice fillA binA scal sliceCells List.length_append argsT AV.sc scL AObj.sc resV getAll AR.get AOp.slots opdSlots opdsSlots partSlots eqAt at_new0 at_new set_new0 set_new wrap64
set_option linter.unusedSimpArgs false
set_option linter.unusedVariables false
def zL (xs : List Nat) : List Int := xs.map fun k : Nat => (k : Int)
theorem r1_iv (f : Nat → Int) (n : Nat) : avR (r1 f) n = iv ((List.range n).map f) := by
  simp [avR, r1, iv, List.flatMap_def, Function.comp_def]
  induction (List.range n) with
  | nil => rfl
  | cons a r ih => simp only [List.map_cons, List.flatten_cons, ih]; rfl
/-- What a call leaves that returns a list of numbers and a number. -/
def inX (H : Heap) (xs : List Int) (e : Int) (v : AV) (h' : Heap) : Prop := ∃ (V : AV) (G : Heap), v = .tuple [V, .int .i64 e] ∧ h' = H ++ G ∧ IAt (H ++ G) V xs
theorem iat_of {H G : Heap} {id : Nat} {xs : List Int} {ex : Bool} (hid : id = H.length) : IAt (H ++ .cells (iv xs) true :: G) (.slice id 0 xs.length 1 ex) xs := by
  subst hid
  exact (LAt.of (by simp) (by rw [iv_length]; omega) ex).r
theorem iat_nil (H : Heap) : IAt H .nilslice [] := ⟨by simp [iv], .inl ⟨rfl, rfl⟩⟩
theorem c_WallsX (H : Heap) (l : List Str) (s : Sl) (id off : Nat) (ex : Bool) (hs : rd H id off (l.length * 9) = some (l.flatMap Str.av)) (hn : (l.length : Int) < 1000000) (hb : ¬ (validL l ∧ s.ok)) :
    ACalls Try.prog F.slide_Walls [.agg [.slice id off l.length 9 ex], .agg s.av] H (fun v h' => v = .tuple [.nilslice, .int .i64 (errS l s)] ∧ h' = H) := by
  have hid := rd_lt hs
  have he := errS_ne hb
  have kc := fun G xid h => c_check1 (H ++ G) l id off ex s xid 0 true (by rw [rd_old _ hid]; exact hs) hn h
  generalize errS l s = e at *
  simp only [sav_eq] at kc ⊢
  refine acalls_of ok_slide_Walls rfl fun hcl => ?_
  unfold ac_slide_Walls
  simp only [argsT, Nat.zero_add, Nat.reduceAdd]
  repeat (first|(with_reducible first|apply X1|apply X2|apply X8)|((with_reducible apply e_end);(simp;exact Red.rfl))|((with_reducible apply O1);rfl;(simp (disch:=omega);exact Red.rfl);exact Red.rfl;(focus (first|(simp;done)|omega|(simp;omega)))))
  (with_reducible apply e_call); (simp; exact Red.rfl); exact kc _ _ (by simp)
  rintro _ _ ⟨rfl, rfl⟩
  repeat (first|(with_reducible first|apply X1|apply X2|apply X3|apply X8|apply X9)|((with_reducible apply e_end);(simp;exact Red.rfl))|((with_reducible apply O1);rfl;(simp (disch:=omega) [he];exact Red.rfl);exact Red.rfl;(focus (first|(simp;done)|omega|(simp;omega))))|((with_reducible apply Z9);(simp (disch:=omega) [he];exact Red.rfl)))
  refine q_drop (.inr rfl) (by simp; exact Red.rfl) (by simp) ⟨rfl, rfl⟩
theorem c_rWallsX (H : Heap) (l : List Str) (s : Sl) (id off : Nat) (ex : Bool) (hs : rd H id off (l.length * 9) = some (l.flatMap Str.av)) (hn : (l.length : Int) < 1000000) (hc : 0 ≤ s.c ∧ s.c ≤ 255) (hb : ¬ (validL l ∧ s.ok)) :
    ACalls Try.prog F.ref03_Walls [.agg [.slice id off l.length 9 ex], .agg s.av] H (fun v h' => v = .tuple [.nilslice, .int .i64 (errS l s)] ∧ h' = H) := by
  have hid := rd_lt hs
  have he := errS_ne hb
  have kc := fun G => c_rboth (H ++ G) l s id off ex (by rw [rd_old _ hid]; exact hs) hn hc
  generalize errS l s = e at *
  simp only [sav_eq] at kc ⊢
  refine acalls_of ok_ref03_Walls rfl fun hcl => ?_
  unfold ac_ref03_Walls
  simp only [argsT, Nat.zero_add, Nat.reduceAdd]
  repeat (first|(with_reducible first|apply X1|apply X2|apply X8)|((with_reducible apply e_end);(simp;exact Red.rfl))|((with_reducible apply O1);rfl;(simp (disch:=omega);exact Red.rfl);exact Red.rfl;(focus (first|(simp;done)|omega|(simp;omega)))))
  (with_reducible apply e_call); (simp; exact Red.rfl); exact kc _
  rintro _ _ ⟨rfl, rfl⟩
  repeat (first|(with_reducible first|apply X1|apply X2|apply X3|apply X8|apply X9)|((with_reducible apply e_end);(simp;exact Red.rfl))|((with_reducible apply O1);rfl;(simp (disch:=omega) [he];exact Red.rfl);exact Red.rfl;(focus (first|(simp;done)|omega|(simp;omega))))|((with_reducible apply Z9);(simp (disch:=omega) [he];exact Red.rfl)))
  refine q_drop (.inr rfl) (by simp; exact Red.rfl) (by simp) ⟨rfl, rfl⟩
set_option maxHeartbeats 4000000 in
theorem c_rWalls (H : Heap) (l : List Str) (s : Sl) (id off : Nat) (ex : Bool) (hs : rd H id off (l.length * 9) = some (l.flatMap Str.av)) (hv : validL l) (hk : s.ok) (hc : 0 ≤ s.c ∧ s.c ≤ 255) :
    ACalls Try.prog F.ref03_Walls [.agg [.slice id off l.length 9 ex], .agg s.av] H (fun v h' => v = .tuple [.slice H.length 0 l.length 1 false, .int .i64 0] ∧ h' = H ++ [.cells (iv ((List.range l.length).map (wlF s l))) true]) := by
  have hid := rd_lt hs
  have h12 := hv.1
  have kb := fun G => c_rboth (H ++ G) l s id off ex (by rw [rd_old _ hid]; exact hs) (by omega) hc
  rw [errS3 hv hk] at kb
  have kc := fun G (i : Nat) (b : Bool) hb => c_r3curve (H ++ G) l id off ex i (by rw [rd_old _ hid]; exact hs) hv (b := b) hb
  have kh := fun G i hi hcu => c_r3height (H ++ G) l s id off i ex (by rw [rd_old _ hid]; exact hs) hv hk hi hcu
  have hw : ∀ i, wlF s l i = if (strAt l i).side = 0 then 0 else if 0 < htF (wiF (hd true s l) i) (strAt l i).rLo s.t2 then htF (wiF (hd true s l) i) (strAt l i).rLo s.t2 else 0 := fun _ => rfl
  generalize wlF s l = w at *
  have hT : ∀ i, (List.range (i + 1)).map w = (List.range i).map w ++ [w i] := fun i => by rw [List.range_succ, List.map_append]; rfl
  have hT0 : (List.range 0).map w = [] := rfl
  have hTl : ∀ i, ((List.range i).map w).length = i := fun i => by simp
  generalize hTT : (fun i => (List.range i).map w) = T at *
  have hTe : ∀ i, (List.range i).map w = T i := fun i => by rw [← hTT]
  simp only [hTe] at hT hT0 hTl ⊢
  simp only [sav_eq] at kb kh ⊢
  refine acalls_of ok_ref03_Walls rfl fun hcl => ?_
  unfold ac_ref03_Walls
  simp only [argsT, Nat.zero_add, Nat.reduceAdd]
  repeat (first|(with_reducible first|apply X1|apply X2|apply X8)|((with_reducible apply e_end);(simp;exact Red.rfl))|((with_reducible apply O1);rfl;(simp (disch:=omega);exact Red.rfl);exact Red.rfl;(focus (first|(simp;done)|omega|(simp;omega)))))
  (with_reducible apply e_call); (simp; exact Red.rfl); exact kb _
  rintro _ _ ⟨rfl, rfl⟩
  repeat (first|(with_reducible first|apply X1|apply X2|apply X5|apply X6|apply X8)|((with_reducible apply e_end);(simp;exact Red.rfl))|((with_reducible apply O1);rfl;(simp (disch:=omega);exact Red.rfl);exact Red.rfl;(focus (first|(simp;done)|omega|(simp;omega))))|((with_reducible apply W3);(simp (disch:=omega);exact Red.rfl)))
  refine e_loop (ι := { x : Nat × AV × Heap // x.1 ≤ l.length ∧ AAt (H ++ (.cells [.slice id off l.length 9 ex] true :: .cells [.int .u8 s.c, .int .i64 s.s1, .int .i64 s.s2, .int .i64 s.r1, .int .i64 s.r2, .int .i64 s.d1, .int .i64 s.d2, .int .i64 s.w1, .int .i64 s.w2, .int .i64 s.t1, .int .i64 s.t2] true :: x.2.2)) 1 x.2.1 (iv (T x.1)) x.1 ∧ ∀ i, isId x.2.1 i → H.length + 2 ≤ i })
    (fun x => [(2, .ptr H.length 0), (3, .ptr (H.length + 1) 0), (7, x.1.2.1), (8, .int .i64 x.1.1)])
    (fun x => H ++ (.cells [.slice id off l.length 9 ex] true :: .cells [.int .u8 s.c, .int .i64 s.s1, .int .i64 s.s2, .int .i64 s.r1, .int .i64 s.r2, .int .i64 s.d1, .int .i64 s.d2, .int .i64 s.w1, .int .i64 s.w2, .int .i64 s.t1, .int .i64 s.t2] true :: x.1.2.2)) (fun x => l.length - x.1.1) ⟨(0, .nilslice, []), by simp, by rw [hT0]; exact AAt.nil _ _, fun i hi => hi.elim⟩ ?_ ?_
  · exact .inl rfl
  · rintro ⟨⟨i, v, G⟩, hi, hv2, hvi⟩
    dsimp only at hi hv2 hvi ⊢
    by_cases hlt : i < l.length
    · have hlt2 : (i : Int) < l.length := by omega
      have hw := hw i
      have hT := hT i
      have fin : ∀ x, x = w i → iv (T i) ++ [.int .i64 x] = iv (T (i + 1)) := fun x hx => by rw [hT, hx, iv_app]; rfl
      repeat (first|(with_reducible first|apply X1|apply X2|apply X5|apply X6|apply X8)|((with_reducible apply e_end);(simp;exact Red.rfl))|((with_reducible apply O1);rfl;(simp (disch:=omega) [hlt, hlt2];exact Red.rfl);exact Red.rfl;(focus (first|(simp;done)|omega|(simp;omega))))|((with_reducible apply Z9);(simp (disch:=omega) [hlt, hlt2];exact Red.rfl)))
      by_cases hside : (strAt l i).side = 0
      · rw [if_pos hside] at hw
        (with_reducible apply e_call); (simp; exact Red.rfl); exact kc _ i false (by simp [hside])
        rintro _ _ ⟨rfl, rfl⟩
        repeat (first|(with_reducible first|apply X2|apply X5|apply X8)|((with_reducible apply e_end);(simp;exact Red.rfl))|((with_reducible apply O1);rfl;(simp (disch:=omega);exact Red.rfl);exact Red.rfl;(focus (first|(simp;done)|omega|(simp;omega))))|((with_reducible apply W3);(simp (disch:=omega);exact Red.rfl)))
        refine e_appA (A := H ++ [.cells [.slice id off l.length 9 ex] true, .cells [.int .u8 s.c, .int .i64 s.s1, .int .i64 s.s2, .int .i64 s.r1, .int .i64 s.r2, .int .i64 s.d1, .int .i64 s.d2, .int .i64 s.w1, .int .i64 s.w2, .int .i64 s.t1, .int .i64 s.t2] true]) (G := G ++ [.cells [.int .i64 0] true]) (cs := iv (T i)) (n := i) (m := 1) (new := [.int .i64 0]) (by simp) (by simp; exact Red.rfl) (by simp; exact Red.rfl) (by have := hv2.app [.cells [.int .i64 0] true]; simpa using this) (fun k hk => by have := hvi k hk; simp; omega) (by simp [Nat.add_assoc]) (by simp) (by omega) (by omega) ?_
        intro G2 v2 e3 e4 _ _ _
        simp only [List.append_assoc, List.cons_append, List.nil_append] at e3 e4 ⊢
        rw [fin _ (by rw [hw])] at e3
        repeat (first|(with_reducible first|apply X2|apply X8|apply Y2)|((with_reducible apply e_end);(simp;exact Red.rfl))|((with_reducible apply O1);rfl;(simp (disch:=omega);exact Red.rfl);exact Red.rfl;(focus (first|(simp;done)|omega|(simp;omega)))))
        refine q_again ⟨(i + 1, v2, G2), by dsimp only; omega, e3, fun k hk => by have := e4 k hk; simpa using this⟩ (by dsimp only; omega) (.inl (by simp))
      · rw [if_neg hside] at hw
        (with_reducible apply e_call); (simp; exact Red.rfl); exact kc _ i true (by simp only [true_iff, Int.toNat_natCast]; exact ⟨by omega, by omega, hside⟩)
        rintro _ _ ⟨rfl, rfl⟩
        have kh := fun G => kh G i hlt hside
        generalize htF (wiF (hd true s l) i) (strAt l i).rLo s.t2 = g at *
        generalize htF (wiF (hd false s l) i) (strAt l i).rHi s.t1 = f at *
        repeat (first|(with_reducible first|apply X2|apply X8)|((with_reducible apply e_end);(simp;exact Red.rfl))|((with_reducible apply O1);rfl;(simp (disch:=omega);exact Red.rfl);exact Red.rfl;(focus (first|(simp;done)|omega|(simp;omega))))|((with_reducible apply Z9);(simp (disch:=omega);exact Red.rfl)))
        (with_reducible apply e_call); (simp; exact Red.rfl); exact kh _
        rintro _ _ ⟨rfl, rfl⟩
        repeat (first|(with_reducible first|apply X2|apply X8)|((with_reducible apply e_end);(simp;exact Red.rfl))|((with_reducible apply O1);rfl;(simp (disch:=omega);exact Red.rfl);exact Red.rfl;(focus (first|(simp;done)|omega|(simp;omega)))))
        refine e_appA (A := H ++ [.cells [.slice id off l.length 9 ex] true, .cells [.int .u8 s.c, .int .i64 s.s1, .int .i64 s.s2, .int .i64 s.r1, .int .i64 s.r2, .int .i64 s.d1, .int .i64 s.d2, .int .i64 s.w1, .int .i64 s.w2, .int .i64 s.t1, .int .i64 s.t2] true]) (G := G ++ [.cells [.int .i64 (if 0 < g then g else 0)] true]) (cs := iv (T i)) (n := i) (m := 1) (new := [.int .i64 (if 0 < g then g else 0)]) (by simp) (by simp; exact Red.rfl) (by simp; exact Red.rfl) (by have := hv2.app [.cells [.int .i64 (if 0 < g then g else 0)] true]; simpa using this) (fun k hk => by have := hvi k hk; simp; omega) (by simp [Nat.add_assoc]) (by simp) (by omega) (by omega) ?_
        intro G2 v2 e3 e4 _ _ _
        simp only [List.append_assoc, List.cons_append, List.nil_append] at e3 e4 ⊢
        rw [fin _ (by rw [hw])] at e3
        repeat (first|(with_reducible first|apply X2|apply X8|apply Y2)|((with_reducible apply e_end);(simp;exact Red.rfl))|((with_reducible apply O1);rfl;(simp (disch:=omega);exact Red.rfl);exact Red.rfl;(focus (first|(simp;done)|omega|(simp;omega)))))
        refine q_again ⟨(i + 1, v2, G2), by dsimp only; omega, e3, fun k hk => by have := e4 k hk; simpa using this⟩ (by dsimp only; omega) (.inl (by simp))
    · have hlt2 : ¬ (i : Int) < l.length := by omega
      obtain rfl : i = l.length := by omega
      repeat (first|(with_reducible first|apply X1|apply X2|apply X3|apply X4|apply X8|apply Y1|apply Y4|apply Y6)|((with_reducible apply e_end);(simp;exact Red.rfl))|((with_reducible apply O1);rfl;(simp (disch:=omega) [hlt2];exact Red.rfl);exact Red.rfl;(focus (first|(simp;done)|omega|(simp;omega))))|((with_reducible apply W3);(simp (disch:=omega) [hlt2];exact Red.rfl)))
      have hn0 : ¬ l.length = 0 := by omega
      have hle := le_ls (H := H) (G := .cells [.slice id off l.length 9 ex] true :: .cells [.int .u8 s.c, .int .i64 s.s1, .int .i64 s.s2, .int .i64 s.r1, .int .i64 s.r2, .int .i64 s.d1, .int .i64 s.d2, .int .i64 s.w1, .int .i64 s.w2, .int .i64 s.t1, .int .i64 s.t2] true :: G) (fun x => AV.tuple [x, .int .i64 0]) (fun _ _ => rfl) (fun x m h => by simpa [AV.sc, scL] using h) (iv_plain _) hv2 (fun i hi => by have := hvi i hi; omega)
      simp only [lsV, lsO, if_neg hn0] at hle
      exact q_post (v' := .tuple [.slice H.length 0 l.length 1 false, .int .i64 0]) (.inr rfl) (by simp; exact Red.rfl) hle ⟨rfl, rfl⟩
end Go.Proofs
/- The law SlideSafes: sleds that are not safe, by the program and by the reference. -/
namespace Go.Proofs
open Go.Abs
attribute [local simp] AOp.den AOpd.ev lk cellsOf rd_new rd_new0 rd_zero rd_succ wr_new wr_new0 wr_zero wr_succ splice fillA binA scal sliceCells List.length_append argsT AV.sc scL AObj.sc resV getAll AR.get AOp.slots opdSlots opdsSlots partSlots eqAt at_new0 at_new set_new0 set_new wrap64
set_option linter.unusedSimpArgs false
set_option linter.unusedVariables false
theorem walls_both (l : List Str) (s : Sl) (hn : (l.length : Int) < 1000000) (hc : 0 ≤ s.c ∧ s.c ≤ 255) : ∃ (xs : List Int) (e : Int), ((xs.length : Int) < 1000000 ∧ 0 ≤ e ∧ e ≤ 100) ∧ ∀ (H : Heap) (id off : Nat) (ex : Bool), rd H id off (l.length * 9) = some (l.flatMap Str.av) →
    ACalls Try.prog F.slide_Walls [.agg [.slice id off l.length 9 ex], .agg s.av] H (inX H xs e) ∧ ACalls Try.prog F.ref03_Walls [.agg [.slice id off l.length 9 ex], .agg s.av] H (inX H xs e) := by
  by_cases hb : validL l ∧ s.ok
  · obtain ⟨hv, hk⟩ := hb
    have e1 : ((List.range l.length).map (wlF s l)).length = l.length := by simp
    refine ⟨(List.range l.length).map (wlF s l), 0, by rw [e1]; omega, fun H id off ex hs => ⟨(c_Walls H l id off ex s hs hv hk).mono ?_, (c_rWalls H l s id off ex hs hv hk hc).mono ?_⟩⟩
    · rintro v h ⟨rfl, rfl⟩
      refine ⟨_, _, rfl, rfl, ?_⟩
      have := iat_of (H := H) (G := []) (id := H.length) (xs := (List.range l.length).map (wlF s l)) (ex := true) rfl
      rw [e1] at this
      rw [r1_iv]; exact this
    · rintro v h ⟨rfl, rfl⟩
      refine ⟨_, _, rfl, rfl, ?_⟩
      have := iat_of (H := H) (G := []) (id := H.length) (xs := (List.range l.length).map (wlF s l)) (ex := false) rfl
      rw [e1] at this; exact this
  · refine ⟨[], errS l s, by have := errS_bd l s; simpa using this, fun H id off ex hs => ⟨(c_WallsX H l s id off ex hs hn hb).mono ?_, (c_rWallsX H l s id off ex hs hn hc hb).mono ?_⟩⟩
    · rintro v h ⟨rfl, rfl⟩
      exact ⟨.nilslice, [], rfl, by simp, iat_nil _⟩
    · rintro v h ⟨rfl, rfl⟩
      exact ⟨.nilslice, [], rfl, by simp, iat_nil _⟩
open Classical in
noncomputable def errL (l : List Str) (xs : List Sl) : Int := if ¬ validL l then 10 else if 6 < xs.length then 4 else if ¬ (∀ i (hi : i < xs.length), xs[i].ok) then 30 else 0
theorem errL1 {l : List Str} {xs : List Sl} (h : ¬ validL l) : errL l xs = 10 := by rw [errL, if_pos h]
theorem errL2 {l : List Str} {xs : List Sl} (h : validL l) (h2 : 6 < xs.length) : errL l xs = 4 := by rw [errL, if_neg (by simp [h]), if_pos h2]
theorem errL3 {l : List Str} {xs : List Sl} (h : validL l) (h2 : xs.length ≤ 6) (h3 : ¬ (∀ i (hi : i < xs.length), xs[i].ok)) : errL l xs = 30 := by rw [errL, if_neg (by simp [h]), if_neg (by omega), if_pos h3]
theorem errL4 {l : List Str} {xs : List Sl} (h : validL l) (h2 : xs.length ≤ 6) (h3 : ∀ i (hi : i < xs.length), xs[i].ok) : errL l xs = 0 := by rw [errL, if_neg (by simp [h]), if_neg (by omega), if_neg (fun h => h h3)]
theorem errL_bd (l : List Str) (xs : List Sl) : 0 ≤ errL l xs ∧ errL l xs ≤ 100 := by
  unfold errL
  split
  · omega
  · split
    · omega
    · split <;> omega
theorem c_checkL (H : Heap) (l : List Str) (id off : Nat) (ex : Bool) (xs : List Sl) (xid xoff : Nat) (xex : Bool) (hs : rd H id off (l.length * 9) = some (l.flatMap Str.av)) (hn : (l.length : Int) < 1000000) (hx : rd H xid xoff (xs.length * 11) = some (xs.flatMap Sl.av)) (hxn : (xs.length : Int) < 1000000) :
    ACalls Try.prog F.slide_checkAll [.agg [.slice id off l.length 9 ex], .slice xid xoff xs.length 11 xex] H (fun v h' => v = .int .i64 (errL l xs) ∧ h' = H) :=
  (c_scheckAll H l id off ex xs xid xoff xex hs hn hx hxn).mono fun v h' h => by
    obtain ⟨rfl, e, rfl, ⟨rfl, h1, h2, h3⟩ | ⟨rfl, h1⟩ | ⟨rfl, h1, h2⟩ | ⟨rfl, h1, h2, h3⟩⟩ := h
    · rw [errL4 h1 h2 h3]; exact ⟨rfl, rfl⟩
    · rw [errL1 h1]; exact ⟨rfl, rfl⟩
    · rw [errL2 h1 h2]; exact ⟨rfl, rfl⟩
    · rw [errL3 h1 h2 h3]; exact ⟨rfl, rfl⟩
theorem c_ShutX (H : Heap) (l : List Str) (id off : Nat) (ex : Bool) (xs : List Sl) (xid xoff : Nat) (xex : Bool) (hs : rd H id off (l.length * 9) = some (l.flatMap Str.av)) (hn : (l.length : Int) < 1000000) (hx : rd H xid xoff (xs.length * 11) = some (xs.flatMap Sl.av)) (hxn : (xs.length : Int) < 1000000) (he : errL l xs ≠ 0) :
    ACalls Try.prog F.slide_Shut [.agg [.slice id off l.length 9 ex], .slice xid xoff xs.length 11 xex] H (fun v h' => v = .tuple [.nilslice, .int .i64 (errL l xs)] ∧ h' = H) := by
  have hid := rd_lt hs
  have hxid := rd_lt hx
  have kc := fun G => c_checkL (H ++ G) l id off ex xs xid xoff xex (by rw [rd_old _ hid]; exact hs) hn (by rw [rd_old _ hxid]; exact hx) hxn
  generalize errL l xs = e at *
  refine acalls_of ok_slide_Shut rfl fun hcl => ?_
  unfold ac_slide_Shut
  simp only [argsT, Nat.zero_add, Nat.reduceAdd]
  repeat (first|(with_reducible first|apply X1|apply X2|apply X8)|((with_reducible apply e_end);(simp;exact Red.rfl))|((with_reducible apply O1);rfl;(simp (disch:=omega);exact Red.rfl);exact Red.rfl;(focus (first|(simp;done)|omega|(simp;omega)))))
  (with_reducible apply e_call); (simp; exact Red.rfl); exact kc _
  rintro _ _ ⟨rfl, rfl⟩
  repeat (first|(with_reducible first|apply X1|apply X2|apply X3|apply X8|apply X9)|((with_reducible apply e_end);(simp;exact Red.rfl))|((with_reducible apply O1);rfl;(simp (disch:=omega) [he];exact Red.rfl);exact Red.rfl;(focus (first|(simp;done)|omega|(simp;omega))))|((with_reducible apply Z9);(simp (disch:=omega) [he];exact Red.rfl)))
  refine q_drop (.inr rfl) (by simp; exact Red.rfl) (by simp) ⟨rfl, rfl⟩
set_option maxHeartbeats 2000000 in
theorem c_rShutX (H : Heap) (l : List Str) (id off : Nat) (ex : Bool) (xs : List Sl) (xid xoff : Nat) (xex : Bool) (hs : rd H id off (l.length * 9) = some (l.flatMap Str.av)) (hn : (l.length : Int) < 1000000) (hx : rd H xid xoff (xs.length * 11) = some (xs.flatMap Sl.av)) (hxn : (xs.length : Int) < 1000000)
    (hcs : ∀ i (hi : i < xs.length), 0 ≤ xs[i].c ∧ xs[i].c ≤ 255) (he : errL l xs ≠ 0) :
    ACalls Try.prog F.ref03_Shut [.agg [.slice id off l.length 9 ex], .slice xid xoff xs.length 11 xex] H (fun v h' => v = .tuple [.nilslice, .int .i64 (errL l xs)] ∧ h' = H) := by
  have hid := rd_lt hs
  have hxid := rd_lt hx
  refine acalls_of ok_ref03_Shut rfl fun hcl => ?_
  unfold ac_ref03_Shut
  simp only [argsT, Nat.zero_add, Nat.reduceAdd]
  repeat (first|(with_reducible first|apply X1|apply X2|apply X8)|((with_reducible apply e_end);(simp;exact Red.rfl))|((with_reducible apply O1);rfl;(simp (disch:=omega);exact Red.rfl);exact Red.rfl;(focus (first|(simp;done)|omega|(simp;omega)))))
  (with_reducible apply e_call); (simp; exact Red.rfl); exact c_rTrack _ l id off ex (by rw [rd_old _ hid]; exact hs) hn
  rintro _ _ ⟨rfl, b, rfl, hb⟩
  cases b with
  | false =>
    rw [errL1 (fun h => by have := hb.2 h; cases this)]
    repeat (first|(with_reducible first|apply X1|apply X2|apply X3|apply X8|apply X9)|((with_reducible apply e_end);(simp;exact Red.rfl))|((with_reducible apply O1);rfl;(simp (disch:=omega);exact Red.rfl);exact Red.rfl;(focus (first|(simp;done)|omega|(simp;omega))))|((with_reducible apply Z9);(simp (disch:=omega);exact Red.rfl)))
    refine q_drop (.inr rfl) (by simp; exact Red.rfl) (by simp) ⟨rfl, rfl⟩
  | true =>
    have hv := hb.1 rfl
    by_cases h6 : 6 < xs.length
    · rw [errL2 hv h6]
      have h6i : (6 : Int) < xs.length := by omega
      repeat (first|(with_reducible first|apply X1|apply X2|apply X3|apply X5|apply X8|apply X9)|((with_reducible apply e_end);(simp;exact Red.rfl))|((with_reducible apply O1);rfl;(simp (disch:=omega) [h6i, h6];exact Red.rfl);exact Red.rfl;(focus (first|(simp;done)|omega|(simp;omega))))|((with_reducible apply Z9);(simp (disch:=omega) [h6i, h6];exact Red.rfl))|((with_reducible apply W3);(simp (disch:=omega) [h6i, h6];exact Red.rfl)))
      refine q_drop (.inr rfl) (by simp; exact Red.rfl) (by simp) ⟨rfl, rfl⟩
    · have hno : ¬ (∀ i (hi : i < xs.length), xs[i].ok) := fun h => he (errL4 hv (by omega) h)
      rw [errL3 hv (by omega) hno]
      have h6i : ¬ (6 : Int) < xs.length := by omega
      repeat (first|(with_reducible first|apply X1|apply X2|apply X5|apply X6|apply X8)|((with_reducible apply e_end);(simp;exact Red.rfl))|((with_reducible apply O1);rfl;(simp (disch:=omega) [h6i, h6];exact Red.rfl);exact Red.rfl;(focus (first|(simp;done)|omega|(simp;omega))))|((with_reducible apply W3);(simp (disch:=omega) [h6i, h6];exact Red.rfl)))
      refine e_loop (ι := { i : Nat // i ≤ xs.length ∧ ∀ j (hj : j < xs.length), j < i → xs[j].ok }) (fun i => [(1, .slice xid xoff xs.length 11 xex), (2, .ptr H.length 0), (6, .int .i64 i.1)]) (fun _ => H ++ [.cells [.slice id off l.length 9 ex] true]) (fun i => xs.length - i.1) ⟨0, by simp, by simp⟩ ?_ ?_
      · exact .inl rfl
      · rintro ⟨i, hi, hok⟩
        dsimp only
        by_cases hlt : i < xs.length
        · have hlt2 : (i : Int) < xs.length := by omega
          have hy := rd_row Sl.av_length hx hlt
          repeat (first|(with_reducible first|apply X1|apply X2|apply X5|apply X6|apply X8)|((with_reducible apply e_end);(simp;exact Red.rfl))|((with_reducible apply O1);rfl;(simp (disch:=omega) [hlt, hlt2, rd_old _ hxid, hy];exact Red.rfl);exact Red.rfl;(focus (first|(simp;done)|omega|(simp;omega))))|((with_reducible apply Z9);(simp (disch:=omega) [hlt, hlt2, rd_old _ hxid, hy];exact Red.rfl)))
          (with_reducible apply e_call); (simp; exact Red.rfl); exact c_rSled _ xs[i] (hcs i hlt)
          rintro _ _ ⟨rfl, b, rfl, hb⟩
          cases b with
          | false =>
            repeat (first|(with_reducible first|apply X1|apply X2|apply X3|apply X8|apply X9|apply Y3|apply Y5)|((with_reducible apply e_end);(simp;exact Red.rfl))|((with_reducible apply O1);rfl;(simp (disch:=omega);exact Red.rfl);exact Red.rfl;(focus (first|(simp;done)|omega|(simp;omega))))|((with_reducible apply Z9);(simp (disch:=omega);exact Red.rfl)))
            refine q_drop (.inr rfl) (by simp; exact Red.rfl) (by simp) ⟨rfl, rfl⟩
          | true =>
            repeat (first|(with_reducible first|apply X2|apply X5|apply X8|apply Y2)|((with_reducible apply e_end);(simp;exact Red.rfl))|((with_reducible apply O1);rfl;(simp (disch:=omega);exact Red.rfl);exact Red.rfl;(focus (first|(simp;done)|omega|(simp;omega))))|((with_reducible apply W3);(simp (disch:=omega);exact Red.rfl)))
            refine q_again ⟨i + 1, by omega, fun j hj hji => ?_⟩ (by dsimp only; omega) (.inl rfl)
            rcases Nat.lt_or_ge j i with h | h
            · exact hok j hj h
            · obtain rfl : j = i := by omega
              exact hb.1 rfl
        · exact absurd (fun j hj => hok j hj (by omega)) hno
end Go.Proofs
/- The law SlideSafes: sleds that are not safe, by the reference. -/
namespace Go.Proofs
open Go.Abs
attribute [local simp] AOp.den AOpd.ev lk cellsOf rd_new rd_new0 rd_zero rd_succ wr_new wr_new0 wr_zero wr_succ splice fillA binA scal sliceCells List.length_append argsT AV.sc scL AObj.sc resV getAll AR.get AOp.slots opdSlots opdsSlots partSlots eqAt at_new0 at_new set_new0 set_new wrap64
set_option linter.unusedSimpArgs false
set_option linter.unusedVariables false
theorem zL_app (xs : List Nat) (k : Nat) : zL (xs ++ [k]) = zL xs ++ [(k : Int)] := by simp [zL]
theorem zL_len (xs : List Nat) : (zL xs).length = xs.length := by simp [zL]
set_option maxHeartbeats 4000000 in
theorem c_rShut (H : Heap) (l : List Str) (id off : Nat) (ex : Bool) (xs : List Sl) (xid xoff : Nat) (xex : Bool) (hs : rd H id off (l.length * 9) = some (l.flatMap Str.av)) (hv : validL l) (hx : rd H xid xoff (xs.length * 11) = some (xs.flatMap Sl.av)) (h6 : xs.length ≤ 6) (hok : ∀ i (hi : i < xs.length), xs[i].ok) :
    ACalls Try.prog F.ref03_Shut [.agg [.slice id off l.length 9 ex], .slice xid xoff xs.length 11 xex] H (fun v h' => v = .tuple [lsV H 1 (shL xs l xs.length).length, .int .i64 0] ∧ h' = H ++ lsO (shL xs l xs.length).length (iv (zL (shL xs l xs.length)))) := by
  have hid := rd_lt hs
  have hxid := rd_lt hx
  have h12 := hv.1
  have ks := fun G {i : Nat} (hi : i < xs.length) => c_r3safe (H ++ G) l xs[i] id off ex (by rw [rd_old _ hid]; exact hs) hv (hok i hi)
  have hyes := fun {i : Nat} h => shL_yes (xs := xs) (l := l) (i := i) h
  have hno := fun {i : Nat} h => shL_no (xs := xs) (l := l) (i := i) h
  have hle := shL_le xs l
  have hT0 : shL xs l 0 = [] := rfl
  generalize shL xs l = T at *
  refine acalls_of ok_ref03_Shut rfl fun hcl => ?_
  unfold ac_ref03_Shut
  simp only [argsT, Nat.zero_add, Nat.reduceAdd]
  repeat (first|(with_reducible first|apply X1|apply X2|apply X8)|((with_reducible apply e_end);(simp;exact Red.rfl))|((with_reducible apply O1);rfl;(simp (disch:=omega);exact Red.rfl);exact Red.rfl;(focus (first|(simp;done)|omega|(simp;omega)))))
  (with_reducible apply e_call); (simp; exact Red.rfl); exact c_rTrack _ l id off ex (by rw [rd_old _ hid]; exact hs) (by omega)
  rintro _ _ ⟨rfl, b, rfl, hb⟩
  obtain rfl : b = true := hb.2 hv
  have h6i : ¬ (6 : Int) < xs.length := by omega
  have h6n : ¬ 6 < xs.length := by omega
  repeat (first|(with_reducible first|apply X1|apply X2|apply X5|apply X6|apply X8)|((with_reducible apply e_end);(simp;exact Red.rfl))|((with_reducible apply O1);rfl;(simp (disch:=omega) [h6i, h6n];exact Red.rfl);exact Red.rfl;(focus (first|(simp;done)|omega|(simp;omega))))|((with_reducible apply W3);(simp (disch:=omega) [h6i, h6n];exact Red.rfl)))
  refine e_loop (ι := { i : Nat // i ≤ xs.length }) (fun i => [(1, .slice xid xoff xs.length 11 xex), (2, .ptr H.length 0), (6, .int .i64 i.1)]) (fun _ => H ++ [.cells [.slice id off l.length 9 ex] true]) (fun i => xs.length - i.1) ⟨0, by simp⟩ ?_ ?_
  · exact .inl rfl
  · rintro ⟨i, hi⟩
    dsimp only
    by_cases hlt : i < xs.length
    · have hlt2 : (i : Int) < xs.length := by omega
      have hy := rd_row Sl.av_length hx hlt
      have hk := hok i hlt
      repeat (first|(with_reducible first|apply X1|apply X2|apply X5|apply X6|apply X8)|((with_reducible apply e_end);(simp;exact Red.rfl))|((with_reducible apply O1);rfl;(simp (disch:=omega) [hlt, hlt2, rd_old _ hxid, hy];exact Red.rfl);exact Red.rfl;(focus (first|(simp;done)|omega|(simp;omega))))|((with_reducible apply Z9);(simp (disch:=omega) [hlt, hlt2, rd_old _ hxid, hy];exact Red.rfl)))
      (with_reducible apply e_call); (simp; exact Red.rfl); exact c_rSled _ xs[i] (by have := hk.1; omega)
      rintro _ _ ⟨rfl, b, rfl, hb⟩
      obtain rfl : b = true := hb.2 hk
      repeat (first|(with_reducible first|apply X2|apply X5|apply X8|apply Y2)|((with_reducible apply e_end);(simp;exact Red.rfl))|((with_reducible apply O1);rfl;(simp (disch:=omega);exact Red.rfl);exact Red.rfl;(focus (first|(simp;done)|omega|(simp;omega))))|((with_reducible apply W3);(simp (disch:=omega);exact Red.rfl)))
      exact q_again ⟨i + 1, by omega⟩ (by dsimp only; omega) (.inl rfl)
    · have hlt2 : ¬ (i : Int) < xs.length := by omega
      repeat (first|(with_reducible first|apply X1|apply X2|apply X4|apply X6|apply X8|apply Y1|apply Y4|apply Y6)|((with_reducible apply e_end);(simp;exact Red.rfl))|((with_reducible apply O1);rfl;(simp (disch:=omega) [hlt, hlt2];exact Red.rfl);exact Red.rfl;(focus (first|(simp;done)|omega|(simp;omega))))|((with_reducible apply W3);(simp (disch:=omega) [hlt, hlt2];exact Red.rfl)))
      refine e_loop (ι := { x : Nat × AV × Heap // x.1 ≤ xs.length ∧ AAt (H ++ (.cells [.slice id off l.length 9 ex] true :: x.2.2)) 1 x.2.1 (iv (zL (T x.1))) (T x.1).length ∧ ∀ i, isId x.2.1 i → H.length + 1 ≤ i })
        (fun x => [(1, .slice xid xoff xs.length 11 xex), (2, .ptr H.length 0), (7, x.1.2.1), (8, .int .i64 x.1.1)])
        (fun x => H ++ (.cells [.slice id off l.length 9 ex] true :: x.1.2.2)) (fun x => xs.length - x.1.1) ⟨(0, .nilslice, []), by simp, by rw [hT0]; exact AAt.nil _ _, fun i hi => hi.elim⟩ ?_ ?_
      · exact .inl rfl
      · rintro ⟨⟨i, v, G⟩, hi, hv2, hvi⟩
        dsimp only at hi hv2 hvi ⊢
        by_cases hlt : i < xs.length
        · have hlt2 : (i : Int) < xs.length := by omega
          have hy := rd_row Sl.av_length hx hlt
          have ks := fun G => ks G hlt
          have hsa : slAt xs i = xs[i] := slAt_eq hlt
          have hle := hle i
          have hyes := hyes (i := i)
          have hno := hno (i := i)
          rw [hsa] at hyes hno
          generalize xs[i] = y at hy ks hyes hno
          simp only [sav_eq] at hy ks
          repeat (first|(with_reducible first|apply X1|apply X2|apply X5|apply X6|apply X8|apply Y9)|((with_reducible apply e_end);(simp;exact Red.rfl))|((first|((with_reducible apply O1);rfl)|((with_reducible apply P1);rfl)|((with_reducible apply P2);rfl));(simp (disch:=omega) [hlt, hlt2, rd_old _ hxid, hy];exact Red.rfl);exact Red.rfl;(focus (first|(simp;done)|omega|(simp;omega))))|((with_reducible apply Z9);(simp (disch:=omega) [hlt, hlt2, rd_old _ hxid, hy];exact Red.rfl)))
          (with_reducible apply d_call); (simp; exact Red.rfl); exact ks _; (focus (first | (simp; done) | (simp; omega)))
          by_cases h0 : thN true y l = 0
          · have hT := hno h0
            have hk2 : knF y l = 2 := by rw [knF, if_pos h0]
            repeat (first|(with_reducible first|apply X2|apply X5|apply X8|apply Y2)|((with_reducible first|apply e_end|apply d_end);(simp;exact Red.rfl))|((first|((with_reducible apply O1);rfl)|((with_reducible apply P1);rfl));(simp (disch:=omega) [hk2];exact Red.rfl);exact Red.rfl;(focus (first|(simp;done)|omega|(simp;omega))))|((with_reducible apply W3);(simp (disch:=omega) [hk2];exact Red.rfl)))
            exact q_again ⟨(i + 1, v, G), by dsimp only; omega, by dsimp only; rw [hT]; exact hv2, hvi⟩ (by dsimp only; omega) (.inl (by simp))
          · have hT := hyes h0
            have hk2 : ¬ knF y l = 2 := by
              rw [knF, if_neg h0]
              split <;> decide
            repeat (first|(with_reducible first|apply X2|apply X8)|((with_reducible apply d_end);(simp;exact Red.rfl))|((first|((with_reducible apply O1);rfl)|((with_reducible apply P1);rfl));(simp (disch:=omega) [hk2];exact Red.rfl);exact Red.rfl;(focus (first|(simp;done)|omega|(simp;omega))))|((with_reducible apply Z9);(simp (disch:=omega) [hk2];exact Red.rfl)))
            refine e_appA (A := H ++ [.cells [.slice id off l.length 9 ex] true]) (G := G ++ [.cells [.int .i64 (i : Int)] true]) (cs := iv (zL (T i))) (n := (T i).length) (m := 1) (new := [.int .i64 (i : Int)]) (by simp) (by simp; exact Red.rfl) (by simp; exact Red.rfl) (by have := hv2.app [.cells [.int .i64 (i : Int)] true]; simpa using this) (fun k hk => by have := hvi k hk; simp; omega) (by simp [Nat.add_assoc]) (by simp) (by omega) (by omega) ?_
            intro G2 v2 e3 e4 _ _ _
            simp only [List.append_assoc, List.cons_append, List.nil_append] at e3 e4 ⊢
            have e : iv (zL (T i)) ++ [.int .i64 (i : Int)] = iv (zL (T (i + 1))) := by rw [hT, zL_app, iv_app]; rfl
            rw [e] at e3
            repeat (first|(with_reducible first|apply X2|apply X8|apply Y2)|((with_reducible apply e_end);(simp;exact Red.rfl))|((with_reducible apply O1);rfl;(simp (disch:=omega);exact Red.rfl);exact Red.rfl;(focus (first|(simp;done)|omega|(simp;omega)))))
            refine q_again ⟨(i + 1, v2, G2), by dsimp only; omega, by dsimp only; rw [show (T (i + 1)).length = (T i).length + 1 by rw [hT]; simp]; exact e3, fun k hk => by have := e4 k hk; simpa using this⟩ (by dsimp only; omega) (.inl (by simp))
        · have hlt2 : ¬ (i : Int) < xs.length := by omega
          obtain rfl : i = xs.length := by omega
          repeat (first|(with_reducible first|apply X1|apply X2|apply X3|apply X4|apply X8|apply Y1|apply Y4|apply Y6)|((with_reducible apply e_end);(simp;exact Red.rfl))|((with_reducible apply O1);rfl;(simp (disch:=omega) [hlt2];exact Red.rfl);exact Red.rfl;(focus (first|(simp;done)|omega|(simp;omega))))|((with_reducible apply W3);(simp (disch:=omega) [hlt2];exact Red.rfl)))
          exact q_post (v' := .tuple [lsV H 1 (T xs.length).length, .int .i64 0]) (.inr rfl) (by simp; exact Red.rfl) (le_ls (H := H) (G := .cells [.slice id off l.length 9 ex] true :: G) (fun x => AV.tuple [x, .int .i64 0]) (fun _ _ => rfl) (fun x m h => by simpa [AV.sc, scL] using h) (iv_plain _) hv2 (fun i hi => by have := hvi i hi; omega)) ⟨rfl, rfl⟩
theorem sh_cells (xs : List Sl) (l : List Str) (n : Nat) : avR (r1 (shK xs l n)) (shL xs l n).length = iv (zL (shL xs l n)) := by
  rw [r1_iv]
  congr 1
  apply List.ext_getElem
  · simp [zL]
  · intro i h1 h2
    simp only [List.length_map, List.length_range] at h1
    simp [zL, shK, List.getD_eq_getElem?_getD, List.getElem?_eq_getElem h1]
theorem shut_both (l : List Str) (xs : List Sl) (hn : (l.length : Int) < 1000000) (hxn : (xs.length : Int) < 1000000) (hcs : ∀ i (hi : i < xs.length), 0 ≤ xs[i].c ∧ xs[i].c ≤ 255) : ∃ (ys : List Int) (e : Int), ((ys.length : Int) < 1000000 ∧ 0 ≤ e ∧ e ≤ 100) ∧ ∀ (H : Heap) (id off xid xoff : Nat) (ex xex : Bool), rd H id off (l.length * 9) = some (l.flatMap Str.av) → rd H xid xoff (xs.length * 11) = some (xs.flatMap Sl.av) →
    ACalls Try.prog F.slide_Shut [.agg [.slice id off l.length 9 ex], .slice xid xoff xs.length 11 xex] H (inX H ys e) ∧ ACalls Try.prog F.ref03_Shut [.agg [.slice id off l.length 9 ex], .slice xid xoff xs.length 11 xex] H (inX H ys e) := by
  by_cases he : errL l xs = 0
  · obtain ⟨hv, h6, hok⟩ : validL l ∧ xs.length ≤ 6 ∧ ∀ i (hi : i < xs.length), xs[i].ok := by
      by_cases hv : validL l
      · by_cases h6 : xs.length ≤ 6
        · by_cases hok : ∀ i (hi : i < xs.length), xs[i].ok
          · exact ⟨hv, h6, hok⟩
          · rw [errL3 hv h6 hok] at he; cases he
        · rw [errL2 hv (by omega)] at he; cases he
      · rw [errL1 hv] at he; cases he
    have hle := shL_le xs l xs.length
    refine ⟨zL (shL xs l xs.length), 0, by rw [zL_len]; omega, fun H id off xid xoff ex xex hs hx => ⟨(c_Shut H l id off ex xs xid xoff xex hs hv hx h6 hok).mono ?_, (c_rShut H l id off ex xs xid xoff xex hs hv hx h6 hok).mono ?_⟩⟩
    · rintro v h ⟨rfl, rfl⟩
      refine ⟨_, _, rfl, rfl, ?_⟩
      unfold lV lO
      split
      · rename_i h0
        have : shL xs l xs.length = [] := List.length_eq_zero_iff.1 h0
        rw [this]; exact iat_nil _
      · rw [sh_cells]
        have := iat_of (H := H) (G := []) (id := H.length) (xs := zL (shL xs l xs.length)) (ex := false) rfl
        rw [zL_len] at this; exact this
    · rintro v h ⟨rfl, rfl⟩
      refine ⟨_, _, rfl, rfl, ?_⟩
      unfold lsV lsO
      split
      · rename_i h0
        have : shL xs l xs.length = [] := List.length_eq_zero_iff.1 h0
        rw [this]; exact iat_nil _
      · have := iat_of (H := H) (G := []) (id := H.length) (xs := zL (shL xs l xs.length)) (ex := false) rfl
        rw [zL_len] at this; exact this
  · refine ⟨[], errL l xs, by have := errL_bd l xs; simpa using this, fun H id off xid xoff ex xex hs hx => ⟨(c_ShutX H l id off ex xs xid xoff xex hs hn hx hxn he).mono ?_, (c_rShutX H l id off ex xs xid xoff xex hs hn hx hxn hcs he).mono ?_⟩⟩
    · rintro v h ⟨rfl, rfl⟩
      exact ⟨.nilslice, [], rfl, by simp, iat_nil _⟩
    · rintro v h ⟨rfl, rfl⟩
      exact ⟨.nilslice, [], rfl, by simp, iat_nil _⟩
end Go.Proofs
/- The law SlideSafes. -/
namespace Go.Proofs
open Go.Abs
attribute [local simp] AOp.den AOpd.ev lk cellsOf rd_new rd_new0 rd_zero rd_succ wr_new wr_new0 wr_zero wr_succ splice fillA binA scal sliceCells List.length_append argsT AV.sc scL AObj.sc resV getAll AR.get AOp.slots opdSlots opdsSlots partSlots eqAt at_new0 at_new set_new0 set_new wrap64
set_option linter.unusedSimpArgs false
set_option linter.unusedVariables false
theorem plain_sls (xs : List Sl) : Plain (xs.flatMap Sl.av) := by
  induction xs with
  | nil => exact Plain.nil
  | cons m r ih => rw [List.flatMap_cons]; exact Plain.app ⟨rfl, fun _ => rfl, fun _ => rfl⟩ ih
theorem len_sls (xs : List Sl) : (xs.flatMap Sl.av).length = xs.length * 11 := by
  induction xs with
  | nil => rfl
  | cons m r ih => rw [List.flatMap_cons, List.length_append, ih, Sl.av_length, List.length_cons]; omega
set_option maxHeartbeats 8000000 in
theorem c_lawSSf (H : Heap) (l : List Str) (s : Sl) (xs : List Sl) (id off xid xoff : Nat) (ex xex : Bool) (hs : rd H id off (l.length * 9) = some (l.flatMap Str.av)) (hx : rd H xid xoff (xs.length * 11) = some (xs.flatMap Sl.av))
    (hc : 0 ≤ s.c ∧ s.c ≤ 255) (hxn : (xs.length : Int) ≤ 9223372036854775807) (hcs' : ∀ s ∈ xs, 0 ≤ s.c ∧ s.c ≤ 255) :
    ACalls Try.prog F.law03_SlideSafes [.agg [.slice id off l.length 9 ex], .agg s.av, .slice xid xoff xs.length 11 xex] H (fun v _ => v = .bool true) := by
  have hcs : ∀ i (hi : i < xs.length), 0 ≤ xs[i].c ∧ xs[i].c ≤ 255 := fun i hi => hcs' _ (List.getElem_mem hi)
  have hid := rd_lt hs
  have hxid := rd_lt hx
  have k0 := fun h : (l.length : Int) < 1000000 => safe_both l s h hc
  have k1 := fun h : (l.length : Int) < 1000000 => names_both l s h hc
  have k2 := fun h : (l.length : Int) < 1000000 => start_both l s h hc
  have k3 := fun h : (l.length : Int) < 1000000 => walls_both l s h hc
  have k4 := fun (h : (l.length : Int) < 1000000) (h2 : (xs.length : Int) < 1000000) => shut_both l xs h h2 hcs
  simp only [sav_eq] at k0 k1 k2 k3 ⊢
  refine acalls_of ok_law03_SlideSafes rfl fun hcl => ?_
  unfold ac_law03_SlideSafes
  simp only [argsT, Nat.zero_add, Nat.reduceAdd]
  repeat (first|(with_reducible first|apply X1|apply X2|apply X8)|((with_reducible apply e_end);(simp;exact Red.rfl))|((with_reducible apply O1);rfl;(simp (disch:=omega);exact Red.rfl);exact Red.rfl;(focus (first|(simp;done)|omega|(simp;omega)))))
  (with_reducible apply e_call); (simp; exact Red.rfl); exact c_great _ _ _ _ _ (by simp; omega)
  rintro _ _ ⟨rfl, rfl⟩
  by_cases h20 : 20 < l.length
  · repeat (first|(with_reducible first|apply X1|apply X2|apply X3|apply X8|apply X9)|((with_reducible apply e_end);(simp;exact Red.rfl))|((with_reducible apply O1);rfl;(simp (disch:=omega) [h20];exact Red.rfl);exact Red.rfl;(focus (first|(simp;done)|omega|(simp;omega))))|((with_reducible apply Z9);(simp (disch:=omega) [h20];exact Red.rfl))|((with_reducible apply Z2);(simp (disch:=omega) [h20];exact Red.rfl)))
    refine q_drop (.inr rfl) (by simp; exact Red.rfl) (by simp) rfl
  by_cases h12 : 12 < xs.length
  · have h12i : (12 : Int) < xs.length := by omega
    repeat (first|(with_reducible first|apply X1|apply X2|apply X3|apply X8|apply X9)|((with_reducible apply e_end);(simp;exact Red.rfl))|((with_reducible apply O1);rfl;(simp (disch:=omega) [h20, h12, h12i];exact Red.rfl);exact Red.rfl;(focus (first|(simp;done)|omega|(simp;omega))))|((with_reducible first|apply Z7|apply Z9);(simp (disch:=omega) [h20, h12, h12i];exact Red.rfl)))
    refine q_drop (.inr rfl) (by simp; exact Red.rfl) (by simp) rfl
  · have h12i : ¬ (12 : Int) < xs.length := by omega
    obtain ⟨a0, e0, he0, k0⟩ := k0 (by omega)
    obtain ⟨a1, b1, e1, he1, k1⟩ := k1 (by omega)
    obtain ⟨a2, e2, he2, k2⟩ := k2 (by omega)
    obtain ⟨ws, e3, he3, k3⟩ := k3 (by omega)
    obtain ⟨ys, e4, he4, k4⟩ := k4 (by omega) (by omega)
    repeat (first|(with_reducible first|apply X1|apply X2|apply X5|apply X8)|((with_reducible apply e_end);(simp;exact Red.rfl))|((with_reducible apply O1);rfl;(simp (disch:=omega) [h20, h12, h12i];exact Red.rfl);exact Red.rfl;(focus (first|(simp;done)|omega|(simp;omega))))|((with_reducible apply Z7);(simp (disch:=omega) [h20, h12, h12i];exact Red.rfl))|((with_reducible apply W3);(simp (disch:=omega) [h20, h12, h12i];exact Red.rfl)))
    (with_reducible apply e_call); (simp; exact Red.rfl); exact c_Twin _ l id off ex (by rw [rd_old _ hid]; exact hs) (by omega)
    rintro _ _ ⟨rfl, rfl⟩
    have px := plain_sls xs
    have lx := len_sls xs
    have hlL : (l.flatMap Str.av).length = l.length * 9 := by rw [flat_eq]; exact (plain_str l).length _
    repeat (first|(with_reducible first|apply X1|apply X2|apply X8)|((with_reducible apply e_end);(simp;exact Red.rfl))|((first|((with_reducible apply O1);rfl)|((with_reducible apply O2);rfl));(simp (disch:=omega) [rd_old _ hxid, hx, px.scal];exact Red.rfl);exact Red.rfl;(focus (first|(simp;done)|omega|(simp;omega)))))
    refine gen_ops (fun t Y => ∃ q q8 p3 p4 p7 : Nat, t = [(46, .agg [.int .u8 s.c, .int .i64 s.s1, .int .i64 s.s2, .int .i64 s.r1, .int .i64 s.r2, .int .i64 s.d1, .int .i64 s.d2, .int .i64 s.w1, .int .i64 s.w2, .int .i64 s.t1, .int .i64 s.t2]), (45, .agg [.slice q 0 l.length 9 false]), (2, .slice xid xoff xs.length 11 xex), (3, .ptr p3 0), (4, .ptr p4 0), (7, .ptr p7 0), (8, .slice q8 0 xs.length 11 false)] ∧
      rd Y id off (l.length * 9) = some (l.flatMap Str.av) ∧ rd Y q 0 (l.length * 9) = some (l.flatMap Str.av) ∧ rd Y xid xoff (xs.length * 11) = some (xs.flatMap Sl.av) ∧ rd Y q8 0 (xs.length * 11) = some (xs.flatMap Sl.av) ∧ rd Y p3 0 1 = some [.slice id off l.length 9 ex] ∧ rd Y p4 0 11 = some [.int .u8 s.c, .int .i64 s.s1, .int .i64 s.s2, .int .i64 s.r1, .int .i64 s.r2, .int .i64 s.d1, .int .i64 s.d2, .int .i64 s.w1, .int .i64 s.w2, .int .i64 s.t1, .int .i64 s.t2] ∧ rd Y p7 0 1 = some [.slice q 0 l.length 9 false]) ?_ ?_
    · refine ⟨H.length + 2, H.length + 4, _, _, _, rfl, by rw [rd_old _ hid]; exact hs, ?_, by rw [rd_old _ hxid]; exact hx, ?_, by simp, by simp, by simp⟩
      · exact rd_full (b := true) (by simp [at_new, Nat.add_assoc]) hlL
      · exact rd_full (b := true) (by simp [at_new, Nat.add_assoc]) lx
    rintro _ X ⟨q, q8, p3, p4, p7, rfl, hX, hXq, hXx, hX8, m3, m4, m7⟩
    have i1 := rd_lt hX
    have i2 := rd_lt hXq
    have i3 := rd_lt hXx
    have i4 := rd_lt hX8
    have j3 := rd_lt m3
    have j4 := rd_lt m4
    have j7 := rd_lt m7
    (with_reducible apply e_call); (simp; exact Red.rfl); exact (k0 _ q 0 false hXq).1
    rintro _ hqh ⟨rfl, hqe⟩
    rw [hqe]; clear hqe hqh
    repeat (first|(with_reducible first|apply X1|apply X2|apply X8)|((with_reducible apply e_end);(simp;exact Red.rfl))|((with_reducible apply O1);rfl;(simp (disch:=omega) [rd_old _ j3, m3, rd_old _ j4, m4];exact Red.rfl);exact Red.rfl;(focus (first|(simp;done)|omega|(simp;omega)))))
    (with_reducible apply e_call); (simp; exact Red.rfl); exact (k0 _ id off ex (by first | exact hX | (rw [rd_old _ i1]; exact hX))).2
    rintro _ hqh ⟨rfl, hqe⟩
    rw [hqe]; clear hqe hqh
    repeat (first|(with_reducible first|apply X1|apply X2|apply X8)|((with_reducible apply e_end);(simp;exact Red.rfl))|((with_reducible apply O1);rfl;(simp (disch:=omega) [rd_old _ j7, m7, rd_old _ j4, m4];exact Red.rfl);exact Red.rfl;(focus (first|(simp;done)|omega|(simp;omega)))))
    (with_reducible apply e_call); (simp; exact Red.rfl); exact (k1 _ q 0 false hXq).1
    rintro _ hqh ⟨rfl, hqe⟩
    rw [hqe]; clear hqe hqh
    repeat (first|(with_reducible first|apply X1|apply X2|apply X8)|((with_reducible apply e_end);(simp;exact Red.rfl))|((with_reducible apply O1);rfl;(simp (disch:=omega) [rd_old _ j3, m3, rd_old _ j4, m4];exact Red.rfl);exact Red.rfl;(focus (first|(simp;done)|omega|(simp;omega)))))
    (with_reducible apply e_call); (simp; exact Red.rfl); exact (k1 _ id off ex hX).2
    rintro _ hqh ⟨rfl, hqe⟩
    rw [hqe]; clear hqe hqh
    repeat (first|(with_reducible first|apply X1|apply X2|apply X8)|((with_reducible apply e_end);(simp;exact Red.rfl))|((with_reducible apply O1);rfl;(simp (disch:=omega) [rd_old _ j7, m7, rd_old _ j4, m4];exact Red.rfl);exact Red.rfl;(focus (first|(simp;done)|omega|(simp;omega)))))
    (with_reducible apply e_call); (simp; exact Red.rfl); exact (k2 _ q 0 false hXq).1
    rintro _ hqh ⟨rfl, hqe⟩
    rw [hqe]; clear hqe hqh
    repeat (first|(with_reducible first|apply X1|apply X2|apply X8)|((with_reducible apply e_end);(simp;exact Red.rfl))|((with_reducible apply O1);rfl;(simp (disch:=omega) [rd_old _ j3, m3, rd_old _ j4, m4];exact Red.rfl);exact Red.rfl;(focus (first|(simp;done)|omega|(simp;omega)))))
    (with_reducible apply e_call); (simp; exact Red.rfl); exact (k2 _ id off ex hX).2
    rintro _ hqh ⟨rfl, hqe⟩
    rw [hqe]; clear hqe hqh
    repeat (first|(with_reducible first|apply X1|apply X2|apply X8)|((with_reducible apply e_end);(simp;exact Red.rfl))|((with_reducible apply O1);rfl;(simp (disch:=omega) [rd_old _ j7, m7, rd_old _ j4, m4];exact Red.rfl);exact Red.rfl;(focus (first|(simp;done)|omega|(simp;omega)))))
    (with_reducible apply e_call); (simp; exact Red.rfl); exact (k3 _ q 0 false hXq).1
    rintro _ _ ⟨V1, G1, rfl, rfl, hv1⟩
    repeat (first|(with_reducible first|apply X1|apply X2|apply X8)|((with_reducible apply e_end);(simp;exact Red.rfl))|((with_reducible apply O1);rfl;(simp (disch:=omega) [rd_old _ j3, m3, rd_old _ j4, m4];exact Red.rfl);exact Red.rfl;(focus (first|(simp;done)|omega|(simp;omega)))))
    (with_reducible apply e_call); (simp; exact Red.rfl); exact (k3 _ id off ex (by rw [rd_old _ i1]; exact hX)).2
    rintro _ _ ⟨V2, G2, rfl, rfl, hv2⟩
    repeat (first|(with_reducible first|apply X1|apply X2|apply X8)|((with_reducible apply e_end);(simp;exact Red.rfl))|((with_reducible apply O1);rfl;(simp (disch:=omega) [rd_old _ j7, m7];exact Red.rfl);exact Red.rfl;(focus (first|(simp;done)|omega|(simp;omega)))))
    simp only [List.append_assoc] at hv2
    have hv1 := hv1.app G2
    simp only [List.append_assoc] at hv1
    (with_reducible apply e_call); (simp; exact Red.rfl); exact (k4 _ q 0 q8 0 false false (by rw [rd_old _ i2]; exact hXq) (by rw [rd_old _ i4]; exact hX8)).1
    rintro _ _ ⟨V3, G3, rfl, rfl, hv3⟩
    repeat (first|(with_reducible first|apply X1|apply X2|apply X8)|((with_reducible apply e_end);(simp;exact Red.rfl))|((with_reducible apply O1);rfl;(simp (disch:=omega) [rd_old _ j3, m3];exact Red.rfl);exact Red.rfl;(focus (first|(simp;done)|omega|(simp;omega)))))
    simp only [List.append_assoc] at hv3
    have hv1 := hv1.app G3
    have hv2 := hv2.app G3
    simp only [List.append_assoc] at hv1 hv2
    (with_reducible apply e_call); (simp; exact Red.rfl); exact (k4 _ id off xid xoff ex xex (by rw [rd_old _ i1]; exact hX) (by rw [rd_old _ i3]; exact hXx)).2
    rintro _ _ ⟨V4, G4, rfl, rfl, hv4⟩
    simp only [List.append_assoc] at hv4
    have hv1 := hv1.app G4
    have hv2 := hv2.app G4
    have hv3 := hv3.app G4
    simp only [List.append_assoc] at hv1 hv2 hv3
    repeat (first|(with_reducible first|apply X1|apply X2|apply X6|apply X8)|((with_reducible apply e_end);(simp;exact Red.rfl))|((with_reducible apply O1);rfl;(simp (disch:=omega);exact Red.rfl);exact Red.rfl;(focus (first|(simp;done)|omega|(simp;omega)))))
    have fX : rd (X ++ (G1 ++ (G2 ++ (G3 ++ G4)))) id off (l.length * 9) = some (l.flatMap Str.av) := by rw [rd_old _ i1]; exact hX
    have fXq : rd (X ++ (G1 ++ (G2 ++ (G3 ++ G4)))) q 0 (l.length * 9) = some (l.flatMap Str.av) := by rw [rd_old _ i2]; exact hXq
    have fXx : rd (X ++ (G1 ++ (G2 ++ (G3 ++ G4)))) xid xoff (xs.length * 11) = some (xs.flatMap Sl.av) := by rw [rd_old _ i3]; exact hXx
    have fX8 : rd (X ++ (G1 ++ (G2 ++ (G3 ++ G4)))) q8 0 (xs.length * 11) = some (xs.flatMap Sl.av) := by rw [rd_old _ i4]; exact hX8
    have f3 : rd (X ++ (G1 ++ (G2 ++ (G3 ++ G4)))) p3 0 1 = some [.slice id off l.length 9 ex] := by rw [rd_old _ j3]; exact m3
    have f7 : rd (X ++ (G1 ++ (G2 ++ (G3 ++ G4)))) p7 0 1 = some [.slice q 0 l.length 9 false] := by rw [rd_old _ j7]; exact m7
    generalize (X ++ (G1 ++ (G2 ++ (G3 ++ G4)))) = Y at *
    clear hX hXq hXx hX8 m3 m4 m7 i1 i2 i3 i4 j3 j4 j7 k0 k1 k2 k3 k4
    have i1 := rd_lt fX
    have i2 := rd_lt fXq
    have i3 := rd_lt fXx
    have i4 := rd_lt fX8
    have j3 := rd_lt f3
    have j7 := rd_lt f7
    have z1 : ∀ k, V1.sc (Y.length + k) = true := fun k => RAt.sc hv1 (by omega)
    have z2 : ∀ k, V2.sc (Y.length + k) = true := fun k => RAt.sc hv2 (by omega)
    have z3 : ∀ k, V3.sc (Y.length + k) = true := fun k => RAt.sc hv3 (by omega)
    have z4 : ∀ k, V4.sc (Y.length + k) = true := fun k => RAt.sc hv4 (by omega)
    have hxl : xs.length ≤ 12 := by omega
    refine e_loop (ι := { i : Nat // i ≤ xs.length })
      (fun i => [(2, .slice xid xoff xs.length 11 xex), (3, .ptr p3 0), (7, .ptr p7 0), (8, .slice q8 0 xs.length 11 false), (9, .int .u8 a0), (10, .int .i64 e0), (11, .int .u8 a0), (12, .int .i64 e0), (13, .int .i64 a1), (14, .int .i64 b1), (15, .int .i64 e1), (16, .int .i64 a1), (17, .int .i64 b1), (18, .int .i64 e1), (19, .int .i64 a2), (20, .int .i64 e2), (21, .int .i64 a2), (22, .int .i64 e2), (23, V1), (24, .int .i64 e3), (25, V2), (26, .int .i64 e3), (27, V3), (28, .int .i64 e4), (29, V4), (30, .int .i64 e4), (107, .int .i64 xs.length), (108, .int .i64 i.1)])
      (fun _ => Y) (fun i => xs.length - i.1) ⟨0, by simp⟩ ?_ ?_
    · exact .inl rfl
    · rintro ⟨i, hi⟩
      dsimp only
      by_cases hlt : i < xs.length
      · have hlt2 : (i : Int) < xs.length := by omega
        have hy := rd_row Sl.av_length fXx hlt
        have hy8 := rd_row Sl.av_length fX8 hlt
        generalize xs[i] = y at hy hy8
        simp only [sav_eq, Nat.zero_add] at hy hy8
        repeat (first|(with_reducible first|apply X1|apply X2|apply X5|apply X6|apply X8|apply Y2|apply Y9)|((with_reducible first|apply e_end|apply d_end);(simp;exact Red.rfl))|((first|((with_reducible apply O1);rfl)|((with_reducible apply P1);rfl)|((with_reducible apply P2);rfl));(simp (disch:=omega) [hlt, hlt2, hy, hy8];exact Red.rfl);exact Red.rfl;(focus (first|(simp;done)|omega|(simp;omega))))|((with_reducible apply Z9);(simp (disch:=omega) [hlt, hlt2, hy, hy8];exact Red.rfl))|((with_reducible apply W3);(simp (disch:=omega) [hlt, hlt2, hy, hy8];exact Red.rfl)))
        exact q_again ⟨i + 1, by omega⟩ (by dsimp only; omega) (.inl (by simp))
      · have hlt2 : ¬ (i : Int) < xs.length := by omega
        repeat (first|(with_reducible first|apply X1|apply X2|apply X4|apply X8|apply Y1|apply Y4|apply Y6)|((with_reducible apply e_end);(simp;exact Red.rfl))|((with_reducible apply O1);rfl;(simp (disch:=omega) [hlt, hlt2];exact Red.rfl);exact Red.rfl;(focus (first|(simp;done)|omega|(simp;omega))))|((with_reducible apply Z7);(simp (disch:=omega) [hlt, hlt2];exact Red.rfl))|((with_reducible apply W3);(simp (disch:=omega) [hlt, hlt2];exact Red.rfl)))
        (with_reducible apply e_call); (simp; exact Red.rfl); exact c_r1SameInts _ V1 V2 ws hv1 hv2 (by omega)
        rintro _ hqh ⟨rfl, hqe⟩
        rw [hqe]; clear hqe hqh
        repeat (first|((with_reducible apply O1);rfl;(simp (disch:=omega);exact Red.rfl);exact Red.rfl;(focus (first|(simp;done)|omega|(simp;omega))))|((with_reducible apply Z7);(simp (disch:=omega);exact Red.rfl)))
        (with_reducible apply e_call); (simp; exact Red.rfl); exact c_r1SameInts _ V3 V4 ys hv3 hv4 (by omega)
        rintro _ hqh ⟨rfl, hqe⟩
        rw [hqe]; clear hqe hqh
        repeat (first|((with_reducible apply O1);rfl;(simp (disch:=omega) [f3, f7];exact Red.rfl);exact Red.rfl;(focus (first|(simp;done)|omega|(simp;omega))))|((with_reducible apply Z7);(simp (disch:=omega) [f3, f7];exact Red.rfl)))
        (with_reducible apply e_call); (simp; exact Red.rfl); exact c_r1Same _ l q 0 id off false ex fXq fX (by omega)
        rintro _ hqh ⟨rfl, hqe⟩
        rw [hqe]; clear hqe hqh
        repeat (first|(with_reducible first|apply X3|apply X8)|((with_reducible apply e_end);(simp;exact Red.rfl))|((with_reducible apply O1);rfl;(simp (disch:=omega);exact Red.rfl);exact Red.rfl;(focus (first|(simp;done)|omega|(simp;omega)))))
        exact q_stay (.inr rfl) (by simp; exact Red.rfl) rfl
end Go.Proofs
