/- Several texts as one. -/
import Derived.Test.YtfklkmnogppfoaaGreatGG
/- What measures of one kind leave. -/
namespace Go.Proofs
open Go.Abs
attribute [local simp] AOp.den AOpd.ev lk cellsOf rd_new rd_new0 rd_zero rd_succ wr_new wr_new0 wr_zero wr_succ splice fillA binA scal sliceCells List.length_append argsT AV.sc scL AObj.sc resV getAll AR.get AOp.slots opdSlots opdsSlots partSlots eqAt at_new0 at_new set_new0 set_new wrap64
set_option linter.unusedSimpArgs false
set_option linter.unusedVariables false
def PutOK (k : Kind) (put : Str → Int → Int → Str) : Prop := ∀ s x y, (put s x y).av = splice s.av k.c [.int .i64 x, .int .i64 y]
def putL (s : Str) (x y : Int) : Str := { s with lLo := x, lHi := y }
def putF (s : Str) (x y : Int) : Str := { s with fLo := x, fHi := y }
theorem putL_ok : PutOK kLong putL := fun _ _ _ => rfl
theorem putF_ok : PutOK kFall putF := fun _ _ _ => rfl
def kStep (k : Kind) (M : Mat) (m : Ms) : Mat := if m.k = k.num then bnd M m.f.toNat m.t.toNat m.lo m.hi else M
def kindM (k : Kind) (l : List Str) (ms : List Ms) : Mat := ms.foldl (kStep k) (apM k l)
theorem kindM_snoc (k : Kind) (l : List Str) (ms : List Ms) (m : Ms) : kindM k l (ms ++ [m]) = kStep k (kindM k l ms) m := by simp [kindM]
theorem apM_bd {k : Kind} (hk : k.OK) {l : List Str} (hv : validL l) {i j : Nat} (hi : i ≤ l.length) (hj : j ≤ l.length) : -360000 ≤ apM k l i j ∧ apM k l i j ≤ 360000 ∧ (i = j → apM k l i j = 0) := by
  simp only [apM, apS]
  split
  · have := kind_bd hk hv (show i + (j - i) ≤ l.length by omega)
    omega
  · split
    · have := kind_bd hk hv (show j + (i - j) ≤ l.length by omega)
      omega
    · omega
def MatOK (n : Nat) (M : Mat) : Prop := ∀ i j, i ≤ n → j ≤ n → -360000 ≤ M i j ∧ M i j ≤ 360000 ∧ (i = j → M i j = 0)
theorem bnd_eq (M : Mat) {a b : Nat} (hab : a ≠ b) (lo hi : Int) (i j : Nat) : bnd M a b lo hi i j = if i = b ∧ j = a then mn (M b a) (-lo) else if i = a ∧ j = b then mn (M a b) hi else M i j := by
  have e : ∀ x, updM M a b x b a = M b a := fun x => if_neg (by omega)
  simp only [bnd, e]
  rfl
theorem mn_bd {x y L U : Int} (h1 : L ≤ x ∧ x ≤ U) (h2 : L ≤ y) : L ≤ mn x y ∧ mn x y ≤ U := by
  simp only [mn]; split <;> omega
theorem kStep_ok {k : Kind} {n : Nat} {M : Mat} {m : Ms} (hM : MatOK n M) (hm : m.ok n) : MatOK n (kStep k M m) := by
  obtain ⟨_, h1, h2, h3, h4, h5, h6⟩ := hm
  intro i j hi hj
  simp only [kStep]
  split
  · have e1 := hM i j hi hj
    have e2 := hM m.f.toNat m.t.toNat (by omega) (by omega)
    have e3 := hM m.t.toNat m.f.toNat (by omega) (by omega)
    rw [bnd_eq M (by omega)]
    by_cases ha : i = m.t.toNat ∧ j = m.f.toNat
    · rw [if_pos ha]
      have := mn_bd (y := -m.lo) ⟨e3.1, e3.2.1⟩ (by omega)
      exact ⟨this.1, this.2, fun h => by omega⟩
    · rw [if_neg ha]
      by_cases hb : i = m.f.toNat ∧ j = m.t.toNat
      · rw [if_pos hb]
        have := mn_bd (y := m.hi) ⟨e2.1, e2.2.1⟩ (by omega)
        exact ⟨this.1, this.2, fun h => by omega⟩
      · rw [if_neg hb]; exact e1
  · exact hM i j hi hj
theorem kindM_take {k : Kind} {l : List Str} {ms : List Ms} {i : Nat} (h : i < ms.length) : kindM k l (ms.take (i + 1)) = kStep k (kindM k l (ms.take i)) ms[i] := by
  rw [List.take_add_one, List.getElem?_eq_getElem h]; exact kindM_snoc _ _ _ _
theorem kindM_ok {k : Kind} (hk : k.OK) {l : List Str} (hv : validL l) {ms : List Ms} (hm : ∀ i (h : i < ms.length), ms[i].ok l.length) : ∀ i, i ≤ ms.length → MatOK l.length (kindM k l (ms.take i))
  | 0, _ => fun i j hi hj => apM_bd hk hv hi hj
  | i + 1, h => by rw [kindM_take (by omega)]; exact kStep_ok (kindM_ok hk hv hm i (by omega)) (hm i (by omega))
def resS (k : Kind) (put : Str → Int → Int → Str) (S : Nat → Str) (n : Nat) (ms : List Ms) (i j : Nat) : Str :=
  if j < i then put (S j) (-(closeM (kindM k (listS S n) ms) n (n + 1) (j + 1) j)) (closeM (kindM k (listS S n) ms) n (n + 1) j (j + 1)) else S j
theorem resS_step (k : Kind) (put : Str → Int → Int → Str) (S : Nat → Str) (n : Nat) (ms : List Ms) (i : Nat) :
    updS (resS k put S n ms i) i (put (S i) (-(closeM (kindM k (listS S n) ms) n (n + 1) (i + 1) i)) (closeM (kindM k (listS S n) ms) n (n + 1) i (i + 1))) = resS k put S n ms (i + 1) := by
  funext j
  simp only [updS, resS]
  by_cases h : j = i
  · subst h; rw [if_pos rfl, if_pos (by omega)]
  · rw [if_neg h]
    by_cases h2 : j < i
    · rw [if_pos h2, if_pos (by omega)]
    · rw [if_neg h2, if_neg (by omega)]

set_option maxRecDepth 100000 in
theorem c_cNarrow (H : Heap) (S : Nat → Str) (n id : Nat) (ex : Bool) (k : Kind) (hk : k.OK) (put : Str → Int → Int → Str) (hput : PutOK k put) (ms : List Ms) (mv : AV) (hh : H[id]? = some (.cells (avR (fun j => (S j).av) n) true)) (hv : validL (listS S n)) (hm : SlM H mv ms) (hok : okMs n ms) :
    ACalls Tryz.prog F.track_course_narrow [.agg [.slice id 0 n 9 ex], .agg [.int .u8 k.num, .fn (.func k.g) [] []], mv] H (fun v h' =>
      (v = .bool true ∧ (∀ i, i ≤ n → 0 ≤ closeM (kindM k (listS S n) ms) n (n + 1) i i) ∧ h' = H.set id (.cells (avR (fun j => (resS k put S n ms n j).av) n) true)) ∨
      (v = .bool false ∧ h' = H ∧ ∃ kk, kk ≤ n + 1 ∧ ∃ i, i ≤ n ∧ closeM (kindM k (listS S n) ms) n kk i i < 0)) := by
  refine acalls_of ok_track_course_narrow rfl fun hcl => ?_
  unfold ac_track_course_narrow
  simp only [argsT, Nat.zero_add, Nat.reduceAdd]
  have hid := (List.getElem?_eq_some_iff.1 hh).1
  have hln := listS_length S n
  have h12 := hv.1
  rw [hln] at h12
  have hs : rd H id 0 ((listS S n).length * 9) = some ((listS S n).flatMap Str.av) := by rw [hln, listS_av]; exact rd_full hh (lenS S n)
  have hap := fun H2 hs2 => c_apart H2 (listS S n) id 0 ex k hk hs2 hv
  rw [hln] at hap
  have hsc : ∀ j, mv.sc (H.length + j) = true := fun j => hm.sc (Nat.le_add_right _ _)
  have kok := kindM_ok hk hv (ms := ms) (fun i h => by rw [hln]; exact hok.2 i h)
  rw [hln] at kok hs
  have bd := hok.1
  repeat (first|(with_reducible first|apply X1|apply X2|apply X8)|((with_reducible apply e_end);(simp;exact Red.rfl))|((with_reducible apply O1);rfl;(simp (disch:=omega);exact Red.rfl);exact Red.rfl;(focus (first|(simp;done)|omega|(simp;omega)))))
  (with_reducible apply e_call); (simp; exact Red.rfl); exact hap _ (by rw [rd_old _ hid]; exact hs)
  rintro _ _ ⟨rfl, rfl⟩
  repeat (first|(with_reducible first|apply X1|apply X2|apply X8)|((with_reducible apply e_end);(simp;exact Red.rfl))|((with_reducible apply O1);rfl;(simp (disch:=omega);exact Red.rfl);exact Red.rfl;(focus (first|(simp;done)|omega|(simp;omega)))))
  (with_reducible apply e_op); rfl; exact den_len (by simp) hm; exact Red.rfl; trivial
  repeat (first|(with_reducible first|apply X6|apply X8)|((with_reducible apply e_end);(simp;exact Red.rfl))|((with_reducible apply O1);rfl;(simp (disch:=omega);exact Red.rfl);exact Red.rfl;(focus (first|(simp;done)|omega|(simp;omega)))))
  refine e_loop (ι := { i : Nat // i ≤ ms.length })
    (fun i => [(3, .ptr H.length 0), (4, .ptr (H.length + 1) 0), (7, .ptr (H.length + 2) 0), (14, mv), (15, .int .i64 ms.length), (16, .int .i64 i.1)])
    (fun i => H ++ [.cells [.slice id 0 n 9 ex] true, .cells [.int .u8 k.num, .fn (.func k.g) [] []] true, gO (kindM k (listS S n) (ms.take i.1))]) (fun i => ms.length - i.1) ⟨0, by omega⟩ ?_ ?_
  · exact .inr <| le_same (mem3 (by simp; omega) (by simp) (gO_sc _ _)) (by simp [Red, hsc])
  · rintro ⟨i, hi⟩
    dsimp only
    by_cases hlt : i < ms.length
    · have hlt2 : (i : Int) < ms.length := by omega
      obtain ⟨mid, moff, mex, rfl, hm2⟩ : ∃ id off ex, mv = .slice id off ms.length 5 ex ∧ rd H id off (ms.length * 5) = some (ms.flatMap Ms.av) := by
        rcases hm with ⟨_, rfl⟩ | h
        · simp at hlt
        · exact h
      have hmid := rd_lt hm2
      have hx := rd_row Ms.av_length hm2 hlt
      have hoki := hok.2 i hlt
      have est := kindM_take (k := k) (l := listS S n) hlt
      have kok1 := kok i (by omega)
      generalize hmi : ms[i] = m at hx hoki est
      generalize hM : kindM k (listS S n) (ms.take i) = M at *
      generalize hM2 : kindM k (listS S n) (ms.take (i + 1)) = M2 at *
      obtain ⟨mk, f, t, lo, hi2⟩ := m
      simp only [Ms.av] at hx
      simp only [Ms.ok] at hoki
      obtain ⟨a, rfl⟩ : ∃ a : Nat, f = a := ⟨f.toNat, by omega⟩
      obtain ⟨b, rfl⟩ : ∃ b : Nat, t = b := ⟨t.toNat, by omega⟩
      simp only [kStep, Int.toNat_natCast] at est
      by_cases hkk : mk = k.num
      · rw [if_pos hkk] at est
        repeat (first|(with_reducible first|apply X1|apply X2|apply X5|apply X6|apply X8)|((with_reducible apply e_end);(simp;exact Red.rfl))|((first|((with_reducible apply O1);rfl)|((with_reducible apply O2);rfl));(simp (disch:=omega) [hlt2, hlt, rd_old _ hmid, hx, hkk];exact Red.rfl);exact Red.rfl;(focus (first|(simp;done)|omega|(simp;omega))))|((with_reducible apply Z9);(simp (disch:=omega) [hlt2, hlt, rd_old _ hmid, hx, hkk];exact Red.rfl)))
        (with_reducible apply e_call); (simp; exact Red.rfl); exact c_bound _ _ M a b lo hi2 (by rw [at_new]; rfl) (by omega) (by omega) (by omega)
        rintro _ _ ⟨rfl, rfl⟩
        rw [set_new]; simp only [List.set_cons_succ, List.set_cons_zero]
        repeat (first|(with_reducible first|apply X2|apply X8|apply Y2)|((with_reducible apply e_end);(simp;exact Red.rfl))|((with_reducible apply O1);rfl;(simp (disch:=omega);exact Red.rfl);exact Red.rfl;(focus (first|(simp;done)|omega|(simp;omega)))))
        refine q_again ⟨i + 1, by omega⟩ (by dsimp only; omega) (.inr ?_)
        simp only [hM2, est]
        exact le_take (G := [_, _, _]) (mem3 (by simp; omega) (by simp) (gO_sc _ _)) (by simp [Red, hmid]; omega)
      · rw [if_neg hkk] at est
        repeat (first|(with_reducible first|apply X1|apply X2|apply X5|apply X6|apply X8|apply Y2)|((with_reducible apply e_end);(simp;exact Red.rfl))|((first|((with_reducible apply O1);rfl)|((with_reducible apply O2);rfl));(simp (disch:=omega) [hlt2, hlt, rd_old _ hmid, hx, hkk];exact Red.rfl);exact Red.rfl;(focus (first|(simp;done)|omega|(simp;omega))))|((with_reducible apply Z9);(simp (disch:=omega) [hlt2, hlt, rd_old _ hmid, hx, hkk];exact Red.rfl))|((with_reducible apply W3);(simp (disch:=omega) [hlt2, hlt, rd_old _ hmid, hx, hkk];exact Red.rfl)))
        refine q_again ⟨i + 1, by omega⟩ (by dsimp only; omega) (.inr ?_)
        simp only [hM2, est]
        exact le_take (G := [_, _, _]) (mem3 (by simp; omega) (by simp) (gO_sc _ _)) (by simp [Red, hmid]; omega)
    · have hlt2 : ¬ (i : Int) < ms.length := by omega
      obtain rfl : i = ms.length := by omega
      have kok1 := kok ms.length (by omega)
      rw [List.take_of_length_le (Nat.le_refl _)] at kok1 ⊢
      repeat (first|(with_reducible first|apply X1|apply X2|apply X4|apply X8|apply Y1|apply Y4|apply Y6)|((with_reducible apply e_end);(simp;exact Red.rfl))|((with_reducible apply O1);rfl;(simp (disch:=omega) [hlt2];exact Red.rfl);exact Red.rfl;(focus (first|(simp;done)|omega|(simp;omega))))|((with_reducible apply W3);(simp (disch:=omega) [hlt2];exact Red.rfl)))
      (with_reducible apply e_call); (simp; exact Red.rfl); exact c_shorten _ _ (kindM k (listS S n) ms) n (by rw [at_new]; rfl) (by omega) (fun i hi => by have := (kok1 i i hi hi).2.2 rfl; omega) (fun i j hi hj => by have := kok1 i j hi hj; omega)
      rintro _ _ ⟨kk, hkk, rfl, ⟨rfl, rfl, hdg⟩ | ⟨rfl, hdg⟩⟩
      rotate_left
      · rw [set_new]; simp only [List.set_cons_succ, List.set_cons_zero]
        repeat (first|(with_reducible first|apply X1|apply X2|apply X3|apply X8|apply X9)|((with_reducible apply e_end);(simp;exact Red.rfl))|((with_reducible apply O1);rfl;(simp (disch:=omega);exact Red.rfl);exact Red.rfl;(focus (first|(simp;done)|omega|(simp;omega))))|((with_reducible apply Z9);(simp (disch:=omega);exact Red.rfl)))
        refine q_drop (.inr rfl) (by simp; exact Red.rfl) (by simp) (.inr ⟨rfl, rfl, kk, hkk, hdg⟩)
      · rw [set_new]; simp only [List.set_cons_succ, List.set_cons_zero]
        have bdC := closeM_bd (M := kindM k (listS S n) ms) (n := n) (L := 360000) (U := 360000) (by omega) (by omega) (fun i j hi hj => by have := kok1 i j hi hj; omega) (n + 1) (Nat.le_refl _)
        have hp := pow2_le (show n + 1 ≤ 13 by omega)
        repeat (first|(with_reducible first|apply X1|apply X2|apply X5|apply X6|apply X8)|((with_reducible apply e_end);(simp;exact Red.rfl))|((with_reducible apply O1);rfl;(simp (disch:=omega);exact Red.rfl);exact Red.rfl;(focus (first|(simp;done)|omega|(simp;omega))))|((with_reducible apply W3);(simp (disch:=omega);exact Red.rfl)))
        refine e_loop (ι := { i : Nat // i ≤ n })
          (fun i => [(3, .ptr H.length 0), (4, .ptr (H.length + 1) 0), (7, .ptr (H.length + 2) 0), (44, .int .i64 n), (45, .int .i64 i.1)])
          (fun i => H.set id (.cells (avR (fun j => (resS k put S n ms i.1 j).av) n) true) ++ [.cells [.slice id 0 n 9 ex] true, .cells [.int .u8 k.num, .fn (.func k.g) [] []] true, gO (closeM (kindM k (listS S n) ms) n (n + 1))]) (fun i => n - i.1) ⟨0, by omega⟩ ?_ ?_
        · have e : H.set id (.cells (avR (fun j => (resS k put S n ms 0 j).av) n) true) = H := by
            have : (fun j => (resS k put S n ms 0 j).av) = fun j => (S j).av := by funext j; simp [resS]
            rw [this, ← (List.getElem?_eq_some_iff.1 hh).2]; simp
          rw [e]
          exact .inr <| le_same (mem3 (by simp; omega) (by simp) (gO_sc _ _)) (by simp [Red])
        · rintro ⟨i, hi⟩
          dsimp only
          have hC := plain_fun (resS k put S n ms i)
          have hc2 := chg_set H id true (hC.plain n)
          have h2 := at_self hid (.cells (avR (fun j => (resS k put S n ms i j).av) n) true)
          have hL : (H.set id (.cells (avR (fun j => (resS k put S n ms i j).av) n) true)).length = H.length := by simp
          by_cases hlt : i < n
          · have hlt2 : (i : Int) < n := by omega
            have hst := resS_step k put S n ms i
            have b1 := bdC (i + 1) i (by omega) (by omega)
            have b2 := bdC i (i + 1) (by omega) (by omega)
            have hw : wr (H.set id (.cells (avR (fun j => (resS k put S n ms i j).av) n) true)) id (i * 9 + k.c) [.int .i64 (-(closeM (kindM k (listS S n) ms) n (n + 1) (i + 1) i)), .int .i64 (closeM (kindM k (listS S n) ms) n (n + 1) i (i + 1))] = some (H.set id (.cells (avR (fun j => (resS k put S n ms (i + 1) j).av) n) true)) := by
              unfold wr
              rw [h2]
              dsimp only
              have hk2 := hk.le
              rw [if_pos (by rw [lenS]; simp; omega), putS (resS k put S n ms i) (put (S i) (-(closeM (kindM k (listS S n) ms) n (n + 1) (i + 1) i)) (closeM (kindM k (listS S n) ms) n (n + 1) i (i + 1))) hlt (by simp; omega) (by rw [hput]; simp [resS]), hst, List.set_set]
            have hL3 : (H.set id (.cells (avR (fun j => (resS k put S n ms (i + 1) j).av) n) true)).length = H.length := by simp
            have hc3 := chg_set H id true ((plain_fun (resS k put S n ms (i + 1))).plain n)
            generalize hC2 : closeM (kindM k (listS S n) ms) n (n + 1) = C at *
            generalize hH2 : H.set id (.cells (avR (fun j => (resS k put S n ms i j).av) n) true) = H2 at *
            generalize hH3 : H.set id (.cells (avR (fun j => (resS k put S n ms (i + 1) j).av) n) true) = H3 at *
            have hid2 : id < H2.length := by omega
            have hneg : IntKind.i64.wrap (0 - C (i + 1) i) = -C (i + 1) i := by rw [wrap64] <;> omega
            rw [← hL]
            have hL32 : H3.length = H2.length := by omega
            have hz : ((i : Int) + 1).toNat = i + 1 := by omega
            have r1 := fun G => gO_rd0 C G (show i + 1 < 13 by omega) (show i < 13 by omega)
            have r2 := fun G => gO_rd0 C G (show i < 13 by omega) (show i + 1 < 13 by omega)
            repeat (first|(with_reducible first|apply X1|apply X2|apply X5|apply X6|apply X8|apply Y9)|((with_reducible apply e_end);(simp;exact Red.rfl))|((first|((with_reducible apply O1);rfl)|((with_reducible apply P1);rfl)|((with_reducible apply P2);rfl));(simp (disch:=omega) [hlt2, hlt];exact Red.rfl);exact Red.rfl;(focus (first|(simp;done)|omega|(simp;omega))))|((with_reducible apply Z9);(simp (disch:=omega) [hlt2, hlt];exact Red.rfl)))
            (with_reducible apply d_callV); (simp; exact Red.rfl); (simp; exact Red.rfl); exact hk.call _ _ _ (by simp; omega); (focus (first | (simp; done) | (simp; omega)))
            repeat (first|(with_reducible first|apply X2|apply X8|apply Y2)|((with_reducible first|apply e_end|apply d_end);(simp;exact Red.rfl))|((first|((with_reducible apply O1);rfl)|((with_reducible apply P1);rfl)|((with_reducible apply P4);rfl));(simp (disch:=omega) [hlt, hz, r1, r2, show (i : Int) + 1 < 13 by omega, show (i : Int) < 13 by omega, hneg, hid2, wr_old _ hid2, hw, hL32];exact Red.rfl);exact Red.rfl;(focus (first|(simp;done)|omega|(simp;omega))))|((with_reducible apply P6);rfl;(simp (disch:=omega) [hlt, hz, r1, r2, show (i : Int) + 1 < 13 by omega, show (i : Int) < 13 by omega, hneg, hid2, wr_old _ hid2, hw, hL32];exact Red.rfl);exact Red.rfl;(focus (first|(simp [pr];done)|(simp [pr];omega)))))
            refine q_again ⟨i + 1, by omega⟩ (by dsimp only; omega) (.inr ?_)
            simp only [hH3]
            refine le_chg hc3 ?_
            rw [hL, ← hL3]
            exact le_same (mem3 (by simp; omega) (by simp) (gO_sc _ _)) (by simp [Red])
          · have hlt2 : ¬ (i : Int) < n := by omega
            obtain rfl : i = n := by omega
            repeat (first|(with_reducible first|apply X1|apply X2|apply X3|apply X4|apply X8|apply Y1|apply Y4|apply Y6)|((with_reducible apply e_end);(simp;exact Red.rfl))|((with_reducible apply O1);rfl;(simp (disch:=omega) [hlt2];exact Red.rfl);exact Red.rfl;(focus (first|(simp;done)|omega|(simp;omega))))|((with_reducible apply W3);(simp (disch:=omega) [hlt2];exact Red.rfl)))
            exact q_dropC hc2 (.inr rfl) (by simp; exact Red.rfl) (by simp) (.inl ⟨rfl, hdg, rfl⟩)
theorem mn_le (x y : Int) : mn x y ≤ x := by simp only [mn]; split <;> omega
theorem mn_le2 (x y : Int) : mn x y ≤ y := by simp only [mn]; split <;> omega
theorem mn_or (x y : Int) : mn x y = x ∨ mn x y = y := by simp only [mn]; split <;> simp
theorem closeM_succ (M : Mat) {n k i j : Nat} (hi : i ≤ n) (hj : j ≤ n) : closeM M n (k + 1) i j = mn (closeM M n k i j) (closeM M n k i k + closeM M n k k j) := by
  rw [closeM, rndM, if_pos (by omega)]
theorem closeM_mono (M : Mat) {n k i j : Nat} (hi : i ≤ n) (hj : j ≤ n) : closeM M n (k + 1) i j ≤ closeM M n k i j := by
  rw [closeM_succ M hi hj]; exact mn_le _ _
theorem closeM_le (M : Mat) {n i j : Nat} (hi : i ≤ n) (hj : j ≤ n) : ∀ k, closeM M n k i j ≤ M i j
  | 0 => Int.le_refl _
  | k + 1 => Int.le_trans (closeM_mono M hi hj) (closeM_le M hi hj k)
theorem closeM_diag (M : Mat) {n : Nat} {m : Nat} (hd : ∀ i, i ≤ n → 0 ≤ closeM M n m i i) : ∀ k, k ≤ m → ∀ i, i ≤ n → 0 ≤ closeM M n k i i := by
  intro k hk i hi
  obtain ⟨d, rfl⟩ : ∃ d, m = k + d := ⟨m - k, by omega⟩
  have : closeM M n (k + d) i i ≤ closeM M n k i i := by
    clear hd hk
    induction d with
    | zero => exact Int.le_refl _
    | succ d ih => exact Int.le_trans (closeM_mono M hi hi) ih
  have := hd i hi
  omega
theorem closeM_closed (M : Mat) {n : Nat} : ∀ k, k ≤ n + 1 → (∀ i, i ≤ n → 0 ≤ closeM M n k i i) → ∀ o, o < k → ∀ i j, i ≤ n → j ≤ n → closeM M n k i j ≤ closeM M n k i o + closeM M n k o j
  | 0, _, _, o, ho, _, _, _, _ => absurd ho (by omega)
  | k + 1, hk, hd, o, ho, i, j, hi, hj => by
    have hdk := closeM_diag M hd k (by omega)
    have ih := closeM_closed M k (by omega) hdk
    have hok : o ≤ n := by omega
    have hkn : k ≤ n := by omega
    rw [closeM_succ M hi hj, closeM_succ M hi hok, closeM_succ M hok hj]
    have l1 := mn_le (closeM M n k i j) (closeM M n k i k + closeM M n k k j)
    have l2 := mn_le2 (closeM M n k i j) (closeM M n k i k + closeM M n k k j)
    have d1 := hdk k hkn
    rcases Nat.lt_or_ge o k with h | h
    · have a1 := ih o h i j hi hj
      have a2 := ih o h i k hi hkn
      have a3 := ih o h k j hkn hj
      have a4 := ih o h k k hkn hkn
      rcases mn_or (closeM M n k i o) (closeM M n k i k + closeM M n k k o) with e1 | e1 <;> rcases mn_or (closeM M n k o j) (closeM M n k o k + closeM M n k k j) with e2 | e2 <;> rw [e1, e2] <;> omega
    · obtain rfl : o = k := by omega
      rcases mn_or (closeM M n o i o) (closeM M n o i o + closeM M n o o o) with e1 | e1 <;> rcases mn_or (closeM M n o o j) (closeM M n o o o + closeM M n o o j) with e2 | e2 <;> rw [e1, e2] <;> omega
def Sat (n : Nat) (x : Nat → Int) (M : Mat) : Prop := ∀ i j, i ≤ n → j ≤ n → x j - x i ≤ M i j
def SatK (k : Kind) (l : List Str) (ms : List Ms) (x : Nat → Int) : Prop :=
  (∀ j, j < l.length → kLo k l j ≤ x (j + 1) - x j ∧ x (j + 1) - x j ≤ kHi k l j) ∧ ∀ i (h : i < ms.length), ms[i].k = k.num → ms[i].lo ≤ x ms[i].t.toNat - x ms[i].f.toNat ∧ x ms[i].t.toNat - x ms[i].f.toNat ≤ ms[i].hi
def closeK (k : Kind) (l : List Str) (ms : List Ms) : Mat := closeM (kindM k l ms) l.length (l.length + 1)
def goodK (k : Kind) (l : List Str) (ms : List Ms) : Prop := ∀ i, i ≤ l.length → 0 ≤ closeK k l ms i i
def badK (k : Kind) (l : List Str) (ms : List Ms) : Prop := ∃ kk, kk ≤ l.length + 1 ∧ ∃ i, i ≤ l.length ∧ closeM (kindM k l ms) l.length kk i i < 0
theorem closeK_tri {k : Kind} {l : List Str} {ms : List Ms} (hg : goodK k l ms) {i o j : Nat} (hi : i ≤ l.length) (ho : o ≤ l.length) (hj : j ≤ l.length) : closeK k l ms i j ≤ closeK k l ms i o + closeK k l ms o j :=
  closeM_closed _ _ (Nat.le_refl _) hg o (by omega) i j hi hj
theorem kindM_le {k : Kind} {l : List Str} {ms : List Ms} (hm : ∀ i (h : i < ms.length), ms[i].ok l.length) (i j : Nat) : kindM k l ms i j ≤ apM k l i j := by
  have : ∀ m, m ≤ ms.length → kindM k l (ms.take m) i j ≤ apM k l i j := by
    intro m
    induction m with
    | zero => intro _; exact Int.le_refl _
    | succ m ih =>
      intro hle
      rw [kindM_take (by omega)]
      obtain ⟨_, o1, o2, o3, _⟩ := hm m (by omega)
      refine Int.le_trans ?_ (ih (by omega))
      simp only [kStep]
      split
      · rw [bnd_eq _ (by omega)]
        split
        · rename_i e; obtain ⟨rfl, rfl⟩ := e; exact mn_le _ _
        · split
          · rename_i e; obtain ⟨rfl, rfl⟩ := e; exact mn_le _ _
          · exact Int.le_refl _
      · exact Int.le_refl _
  have := this ms.length (Nat.le_refl _)
  rwa [List.take_of_length_le (Nat.le_refl _)] at this
theorem closeK_in {k : Kind} {l : List Str} {ms : List Ms} (hm : ∀ i (h : i < ms.length), ms[i].ok l.length) (hg : goodK k l ms) {j : Nat} (hj : j < l.length) :
    kLo k l j ≤ -closeK k l ms (j + 1) j ∧ -closeK k l ms (j + 1) j ≤ closeK k l ms j (j + 1) ∧ closeK k l ms j (j + 1) ≤ kHi k l j := by
  have h1 : closeK k l ms (j + 1) j ≤ kindM k l ms (j + 1) j := closeM_le _ (by omega) (by omega) _
  have h2 : closeK k l ms j (j + 1) ≤ kindM k l ms j (j + 1) := closeM_le _ (by omega) (by omega) _
  have h3 := kindM_le (k := k) hm (j + 1) j
  have h4 := kindM_le (k := k) hm j (j + 1)
  have h5 := closeK_tri hg (show j ≤ l.length by omega) (show j + 1 ≤ l.length by omega) (show j ≤ l.length by omega)
  have h6 := hg j (by omega)
  rw [apM, apS, if_neg (by omega), if_pos (by omega), show j + 1 - j = 1 by omega] at h3
  rw [apM, apS, if_pos (by omega), show j + 1 - j = 1 by omega] at h4
  simp only [sumF, Nat.add_zero, Int.zero_add] at h3 h4
  omega
def lefL (l : List Str) (ms : List Ms) (j : Nat) : Str := if j < l.length then putL (strAt l j) (-closeK kLong l ms (j + 1) j) (closeK kLong l ms j (j + 1)) else strAt l j
def lefS (l : List Str) (ms : List Ms) (j : Nat) : Str := if j < l.length then putF (lefL l ms j) (-closeK kFall l ms (j + 1) j) (closeK kFall l ms j (j + 1)) else strAt l j
theorem listS_str (l : List Str) : listS (strAt l) l.length = l := by
  refine List.ext_getElem (by rw [listS_length]) fun i h1 h2 => ?_
  simp [listS, strAt, List.getD_eq_getElem?_getD, h2]
theorem res_long (l : List Str) (ms : List Ms) : resS kLong putL (strAt l) l.length ms l.length = lefL l ms := by
  funext j; simp only [resS, lefL, listS_str]; rfl
theorem apM_congr {k : Kind} {l l' : List Str} (hl : l'.length = l.length) (h1 : ∀ j, j < l.length → kLo k l' j = kLo k l j ∧ kHi k l' j = kHi k l j) {i j : Nat} (hi : i ≤ l.length) (hj : j ≤ l.length) : apM k l' i j = apM k l i j := by
  have s1 : ∀ a n, a + n ≤ l.length → sumF (kHi k l') a n = sumF (kHi k l) a n := by
    intro a n
    induction n with
    | zero => intro _; rfl
    | succ n ih => intro h; simp only [sumF]; rw [ih (by omega), (h1 (a + n) (by omega)).2]
  have s2 : ∀ a n, a + n ≤ l.length → sumF (kLo k l') a n = sumF (kLo k l) a n := by
    intro a n
    induction n with
    | zero => intro _; rfl
    | succ n ih => intro h; simp only [sumF]; rw [ih (by omega), (h1 (a + n) (by omega)).1]
  simp only [apM, apS, hl]
  by_cases c1 : i < j ∧ (j < l.length + 1 ∨ j = l.length + 1 ∧ i < 0)
  · rw [if_pos c1, if_pos c1, s1 _ _ (by omega)]
  · rw [if_neg c1, if_neg c1]
    by_cases c2 : j < i ∧ (i < l.length + 1 ∨ i = l.length + 1 ∧ j < 0)
    · rw [if_pos c2, if_pos c2, s2 _ _ (by omega)]
    · rw [if_neg c2, if_neg c2]
def MEq (n : Nat) (M M' : Mat) : Prop := ∀ i j, i ≤ n → j ≤ n → M i j = M' i j
theorem MEq.step {k : Kind} {n : Nat} {M M' : Mat} {m : Ms} (h : MEq n M M') (hm : m.ok n) : MEq n (kStep k M m) (kStep k M' m) := by
  obtain ⟨_, o1, o2, o3, _⟩ := hm
  intro i j hi hj
  simp only [kStep]
  split
  · rw [bnd_eq _ (by omega), bnd_eq _ (by omega), h _ _ hi hj, h m.t.toNat m.f.toNat (by omega) (by omega), h m.f.toNat m.t.toNat (by omega) (by omega)]
  · exact h i j hi hj
theorem MEq.kind {k : Kind} {l l' : List Str} {ms : List Ms} (hl : l'.length = l.length) (h1 : ∀ j, j < l.length → kLo k l' j = kLo k l j ∧ kHi k l' j = kHi k l j) (hm : ∀ i (h : i < ms.length), ms[i].ok l.length) : MEq l.length (kindM k l' ms) (kindM k l ms) := by
  have : ∀ m, m ≤ ms.length → MEq l.length (kindM k l' (ms.take m)) (kindM k l (ms.take m)) := by
    intro m
    induction m with
    | zero => intro _ i j hi hj; exact apM_congr hl h1 hi hj
    | succ m ih =>
      intro hle
      rw [kindM_take (by omega), kindM_take (by omega)]
      exact (ih (by omega)).step (hm m (by omega))
  have := this ms.length (Nat.le_refl _)
  rwa [List.take_of_length_le (Nat.le_refl _)] at this
theorem MEq.close {n : Nat} {M M' : Mat} (h : MEq n M M') : ∀ k, k ≤ n + 1 → MEq n (closeM M n k) (closeM M' n k)
  | 0, _ => h
  | k + 1, hk => fun i j hi hj => by
    have ih := h.close k (by omega)
    rw [closeM_succ _ hi hj, closeM_succ _ hi hj, ih i j hi hj, ih i k hi (by omega), ih k j (by omega) hj]
theorem lefL_fall (l : List Str) (ms : List Ms) : ∀ j, j < l.length → kLo kFall (listS (lefL l ms) l.length) j = kLo kFall l j ∧ kHi kFall (listS (lefL l ms) l.length) j = kHi kFall l j := by
  intro j hj
  simp only [kLo, kHi, kFall]
  rw [listS_get _ hj, lefL, if_pos hj]
  exact ⟨rfl, rfl⟩
theorem lefL_close {l : List Str} {ms : List Ms} (hm : ∀ i (h : i < ms.length), ms[i].ok l.length) {k : Nat} (hk : k ≤ l.length + 1) : MEq l.length (closeM (kindM kFall (listS (lefL l ms) l.length) ms) l.length k) (closeM (kindM kFall l ms) l.length k) :=
  (MEq.kind (listS_length _ _) (lefL_fall l ms) hm).close k hk
theorem res_fall {l : List Str} {ms : List Ms} (hm : ∀ i (h : i < ms.length), ms[i].ok l.length) : (fun j => (resS kFall putF (lefL l ms) l.length ms l.length j).av) = fun j => (lefS l ms j).av := by
  funext j
  simp only [resS, lefS]
  split
  · rename_i hj
    have h := lefL_close hm (Nat.le_refl _)
    rw [h _ _ (by omega) (by omega), h _ _ (by omega) (by omega)]
    rfl
  · rename_i hj
    simp only [lefL, if_neg hj]
theorem lefL_valid {l : List Str} (hv : validL l) {ms : List Ms} (hm : ∀ i (h : i < ms.length), ms[i].ok l.length) (hg : goodK kLong l ms) : validL (listS (lefL l ms) l.length) := by
  refine listS_valid hv fun j hj => ?_
  have h1 := closeK_in hm hg hj
  have h2 := (hv.2 j hj).2.1
  rw [← strAt_eq hj] at h2
  simp only [kLo, kHi, kLong] at h1
  simp only [lefL, if_pos hj, putL]
  refine ⟨?_, by trivial⟩
  simp only [Str.ok] at h2 ⊢
  refine ⟨h2.1, h2.2.1, ?_, h2.2.2.2⟩
  simp only [kLong] at h1 ⊢
  omega
theorem lefS_valid {l : List Str} (hv : validL l) {ms : List Ms} (hm : ∀ i (h : i < ms.length), ms[i].ok l.length) (hg : goodK kLong l ms) (hf : goodK kFall l ms) : validL (listS (lefS l ms) l.length) := by
  refine listS_valid hv fun j hj => ?_
  have h1 := closeK_in hm hg hj
  have h3 := closeK_in hm hf hj
  have h2 := (hv.2 j hj).2.1
  rw [← strAt_eq hj] at h2
  simp only [kLo, kHi, kLong, kFall] at h1 h3
  simp only [lefS, lefL, if_pos hj, putL, putF]
  refine ⟨?_, by trivial⟩
  simp only [Str.ok] at h2 ⊢
  refine ⟨h2.1, h2.2.1, ?_, ?_, h2.2.2.2.2⟩
  · simp only [kLong] at h1 ⊢
    omega
  · simp only [kFall] at h3 ⊢
    omega

def stN (l : List Str) (ms : List Ms) (i : Nat) : Nat → Str := if i = 0 then strAt l else if i = 1 then lefL l ms else lefS l ms
def kN (i : Nat) : Kind := if i = 0 then kLong else kFall
theorem mem4 {α : Type} {p : α → Prop} {a b c d : α} (ha : p a) (hb : p b) (hc : p c) (hd : p d) : ∀ o ∈ [a, b, c, d], p o := by
  simp only [List.forall_mem_cons]; exact ⟨ha, hb, hc, hd, fun x hx => by cases hx⟩
theorem c_Narrow (H : Heap) (l : List Str) (id off : Nat) (ex : Bool) (ms : List Ms) (mv : AV) (hs : rd H id off (l.length * 9) = some (l.flatMap Str.av)) (hv : validL l) (hm : SlM H mv ms) (hn : (ms.length : Int) ≤ 9223372036854775807) (hok : okMs l.length ms) :
    ACalls Tryz.prog F.track_Narrow [.agg [.slice id off l.length 9 ex], mv] H (fun v h' =>
      (v = .tuple [.agg [.slice H.length 0 l.length 9 false], .int .i64 0] ∧ goodK kLong l ms ∧ goodK kFall l ms ∧ h' = H ++ [.cells (avR (fun j => (lefS l ms j).av) l.length) true]) ∨
      (v = .tuple [.agg [.nilslice], .int .i64 8] ∧ h' = H ∧ (badK kLong l ms ∨ badK kFall l ms))) := by
  refine acalls_of ok_track_Narrow rfl fun hcl => ?_
  unfold ac_track_Narrow
  simp only [argsT, Nat.zero_add, Nat.reduceAdd]
  have hid := rd_lt hs
  have h12 := hv.1
  have hsc : ∀ j, mv.sc (H.length + j) = true := fun j => hm.sc (Nat.le_add_right _ _)
  have hsc0 : mv.sc H.length = true := hm.sc (Nat.le_refl _)
  repeat (first|(with_reducible first|apply X1|apply X2|apply X8)|((with_reducible apply e_end);(simp;exact Red.rfl))|((with_reducible apply O1);rfl;(simp (disch:=omega);exact Red.rfl);exact Red.rfl;(focus (first|(simp;done)|omega|(simp;omega)))))
  (with_reducible apply e_call); (simp; exact Red.rfl); exact c_Check _ l id off ex (by rw [rd_old _ hid]; exact hs) (by omega)
  rintro _ _ ⟨rfl, e, rfl, he⟩
  obtain rfl : e = 0 := by
    rcases he with h | h
    · exact h.2
    · exact absurd hv h.1
  repeat (first|(with_reducible first|apply X1|apply X2|apply X5|apply X8)|((with_reducible apply e_end);(simp;exact Red.rfl))|((with_reducible apply O1);rfl;(simp (disch:=omega);exact Red.rfl);exact Red.rfl;(focus (first|(simp;done)|omega|(simp;omega))))|((with_reducible apply W3);(simp (disch:=omega);exact Red.rfl)))
  (with_reducible apply e_call); (simp; exact Red.rfl); exact c_agreed _ l id off ex ms mv (by rw [rd_old _ hid]; exact hs) hv (hm.app _) hn
  rintro _ _ ⟨rfl, b, rfl, hb⟩
  obtain rfl : b = true := hb.2 hok
  repeat (first|(with_reducible first|apply X1|apply X2|apply X5|apply X8)|((with_reducible apply e_end);(simp;exact Red.rfl))|((with_reducible apply O1);rfl;(simp (disch:=omega);exact Red.rfl);exact Red.rfl;(focus (first|(simp;done)|omega|(simp;omega))))|((with_reducible apply W3);(simp (disch:=omega);exact Red.rfl)))
  (with_reducible apply e_call); (simp; exact Red.rfl); exact c_clone _ l id off ex (by rw [rd_old _ hid]; exact hs) (by omega) (by omega)
  rintro _ _ ⟨rfl, rfl⟩
  repeat (first|(with_reducible first|apply X1|apply X2|apply X8)|((with_reducible apply e_end);(simp;exact Red.rfl))|((first|((with_reducible apply O1);rfl)|((with_reducible apply O2);rfl));(simp (disch:=omega);exact Red.rfl);exact Red.rfl;(focus (first|(simp;done)|omega|(simp;omega)))))
  (with_reducible apply e_call); (simp; exact Red.rfl); exact c_kinds _
  rintro _ h2 ⟨rfl, hh⟩
  rw [hh]; clear hh h2
  repeat (first|(with_reducible first|apply X6|apply X8)|((with_reducible apply e_end);(simp;exact Red.rfl))|((with_reducible apply O1);rfl;(simp (disch:=omega);exact Red.rfl);exact Red.rfl;(focus (first|(simp;done)|omega|(simp;omega)))))
  have hpl : ∀ i, Plain (avR (fun j => (stN l ms i j).av) l.length) := fun i => (plain_fun (stN l ms i)).plain l.length
  refine e_loop (ι := { i : Nat // i ≤ 2 ∧ (0 < i → goodK kLong l ms) ∧ (1 < i → goodK kFall l ms) })
    (fun i => [(1, mv), (4, .ptr (H.length + 1) 0), (7, .ptr (H.length + 3) 0), (26, .agg [.int .u8 1, .fn (.func F.track_kinds_1) [] [], .int .u8 2, .fn (.func F.track_kinds_2) [] []]), (27, .int .i64 i.1)])
    (fun i => H ++ [.cells [.slice id off l.length 9 ex] true, .cells [.nilslice] true, .cells (avR (fun j => (stN l ms i.1 j).av) l.length) true, .cells [.slice (H.length + 2) 0 l.length 9 false] true]) (fun i => 2 - i.1) ⟨0, by omega⟩ ?_ ?_
  · exact .inr <| le_same (mem4 (by simp; omega) (by simp) ((hpl 0).sc _) (by simp)) (by simp [Red, hsc])
  · rintro ⟨i, hi, hg, hf⟩
    dsimp only
    have hp := hpl i
    have : i = 0 ∨ i = 1 ∨ i = 2 := by omega
    rcases this with rfl | rfl | rfl
    · rw [show stN l ms 0 = strAt l from rfl] at hp ⊢
      repeat (first|(with_reducible first|apply X1|apply X2|apply X5|apply X6|apply X8)|((with_reducible apply e_end);(simp;exact Red.rfl))|((first|((with_reducible apply O1);rfl)|((with_reducible apply O2);rfl));(simp (disch:=omega);exact Red.rfl);exact Red.rfl;(focus (first|(simp;done)|omega|(simp;omega))))|((with_reducible apply Z9);(simp (disch:=omega);exact Red.rfl)))
      (with_reducible apply e_call); (simp; exact Red.rfl); exact c_cNarrow _ (strAt l) l.length (H.length + 2) false kLong kLong_ok putL putL_ok ms mv (by rw [at_new]; rfl) (by rw [listS_str]; exact hv) (hm.app _) hok
      rintro _ _ (⟨rfl, hgd, rfl⟩ | ⟨rfl, rfl, hbad⟩)
      rotate_left
      · rw [listS_str] at hbad
        repeat (first|(with_reducible first|apply X1|apply X2|apply X3|apply X8|apply X9|apply Y3|apply Y5)|((with_reducible apply e_end);(simp;exact Red.rfl))|((first|((with_reducible apply O1);rfl)|((with_reducible apply O2);rfl));(simp (disch:=omega);exact Red.rfl);exact Red.rfl;(focus (first|(simp;done)|omega|(simp;omega))))|((with_reducible apply Z9);(simp (disch:=omega);exact Red.rfl)))
        refine q_drop (.inr rfl) (by simp; exact Red.rfl) (by simp) (.inr ⟨rfl, rfl, .inl hbad⟩)
      · rw [set_new]; simp only [List.set_cons_succ, List.set_cons_zero]
        rw [res_long]
        rw [listS_str] at hgd
        repeat (first|(with_reducible first|apply X2|apply X5|apply X8|apply Y2)|((with_reducible apply e_end);(simp;exact Red.rfl))|((with_reducible apply O1);rfl;(simp (disch:=omega);exact Red.rfl);exact Red.rfl;(focus (first|(simp;done)|omega|(simp;omega))))|((with_reducible apply W3);(simp (disch:=omega);exact Red.rfl)))
        refine q_again ⟨1, by omega, fun _ => hgd, by omega⟩ (by dsimp only; omega) (.inr ?_)
        exact le_take (G := [_, _, _, _]) (mem4 (by simp; omega) (by simp) ((hpl 1).sc _) (by simp)) (by simp [Red, hsc])
    · rw [show stN l ms 1 = lefL l ms from rfl] at hp ⊢
      have hg1 := hg (by omega)
      repeat (first|(with_reducible first|apply X1|apply X2|apply X5|apply X6|apply X8)|((with_reducible apply e_end);(simp;exact Red.rfl))|((first|((with_reducible apply O1);rfl)|((with_reducible apply O2);rfl));(simp (disch:=omega);exact Red.rfl);exact Red.rfl;(focus (first|(simp;done)|omega|(simp;omega))))|((with_reducible apply Z9);(simp (disch:=omega);exact Red.rfl)))
      (with_reducible apply e_call); (simp; exact Red.rfl); exact c_cNarrow _ (lefL l ms) l.length (H.length + 2) false kFall kFall_ok putF putF_ok ms mv (by rw [at_new]; rfl) (lefL_valid hv hok.2 hg1) (hm.app _) hok
      rintro _ _ (⟨rfl, hgd, rfl⟩ | ⟨rfl, rfl, kk, hkk, i, hi, hneg⟩)
      rotate_left
      · rw [lefL_close hok.2 hkk i i hi hi] at hneg
        repeat (first|(with_reducible first|apply X1|apply X2|apply X3|apply X8|apply X9|apply Y3|apply Y5)|((with_reducible apply e_end);(simp;exact Red.rfl))|((first|((with_reducible apply O1);rfl)|((with_reducible apply O2);rfl));(simp (disch:=omega);exact Red.rfl);exact Red.rfl;(focus (first|(simp;done)|omega|(simp;omega))))|((with_reducible apply Z9);(simp (disch:=omega);exact Red.rfl)))
        refine q_drop (.inr rfl) (by simp; exact Red.rfl) (by simp) (.inr ⟨rfl, rfl, .inr ⟨kk, hkk, i, hi, hneg⟩⟩)
      · rw [set_new]; simp only [List.set_cons_succ, List.set_cons_zero]
        rw [res_fall hok.2]
        have hgf : goodK kFall l ms := fun i hi => by
          have := hgd i hi
          rwa [lefL_close hok.2 (Nat.le_refl _) i i hi hi] at this
        repeat (first|(with_reducible first|apply X2|apply X5|apply X8|apply Y2)|((with_reducible apply e_end);(simp;exact Red.rfl))|((with_reducible apply O1);rfl;(simp (disch:=omega);exact Red.rfl);exact Red.rfl;(focus (first|(simp;done)|omega|(simp;omega))))|((with_reducible apply W3);(simp (disch:=omega);exact Red.rfl)))
        refine q_again ⟨2, by omega, fun _ => hg1, fun _ => hgf⟩ (by dsimp only; omega) (.inr ?_)
        exact le_take (G := [_, _, _, _]) (mem4 (by simp; omega) (by simp) ((hpl 2).sc _) (by simp)) (by simp [Red, hsc])
    · rw [show stN l ms 2 = lefS l ms from rfl] at hp ⊢
      repeat (first|(with_reducible first|apply X1|apply X2|apply X3|apply X4|apply X8|apply Y1|apply Y4|apply Y6)|((with_reducible apply e_end);(simp;exact Red.rfl))|((first|((with_reducible apply O1);rfl)|((with_reducible apply O2);rfl));(simp (disch:=omega);exact Red.rfl);exact Red.rfl;(focus (first|(simp;done)|omega|(simp;omega))))|((with_reducible apply W3);(simp (disch:=omega);exact Red.rfl)))
      exact q_post (v' := .tuple [.agg [.slice H.length 0 l.length 9 false], .int .i64 0]) (.inr rfl) (by simp; exact Red.rfl) (le_plain [2] _ (by simp) rfl (by simp; exact hp.o _) (by simp [sh, AV.ren, renL])) (.inl ⟨rfl, hg (by omega), hf (by omega), rfl⟩)
theorem not_good {k : Kind} {l : List Str} {ms : List Ms} (h : badK k l ms) : ¬ goodK k l ms := by
  intro hg
  obtain ⟨kk, hkk, i, hi, hneg⟩ := h
  have := closeM_diag (kindM k l ms) hg kk hkk i hi
  omega
def lefL2 (l : List Str) (ms : List Ms) : List Str := listS (lefS l ms) l.length
theorem lefL2_len (l : List Str) (ms : List Ms) : (lefL2 l ms).length = l.length := listS_length _ _
theorem lefL2_at {l : List Str} {ms : List Ms} {j : Nat} (hj : j < l.length) : strAt (lefL2 l ms) j = lefS l ms j := listS_get _ hj
theorem lef_eq {l : List Str} {ms : List Ms} {j : Nat} (hj : j < l.length) : lefS l ms j = putF (putL (strAt l j) (-closeK kLong l ms (j + 1) j) (closeK kLong l ms j (j + 1))) (-closeK kFall l ms (j + 1) j) (closeK kFall l ms j (j + 1)) := by
  simp only [lefS, lefL, if_pos hj]
def KindLeft (k : Kind) : Prop := ∀ (l : List Str) (ms : List Ms) (j : Nat), j < l.length → kLo k (lefL2 l ms) j = -closeK k l ms (j + 1) j ∧ kHi k (lefL2 l ms) j = closeK k l ms j (j + 1)
theorem c_NarrowD (H : Heap) (l : List Str) (id off : Nat) (ex : Bool) (ms : List Ms) (mv : AV) (hs : rd H id off (l.length * 9) = some (l.flatMap Str.av)) (hv : validL l) (hm : SlM H mv ms) (hn : (ms.length : Int) ≤ 9223372036854775807) (hok : okMs l.length ms) :
    ACalls Tryz.prog F.track_Narrow [.agg [.slice id off l.length 9 ex], mv] H (fun v h' =>
      ((goodK kLong l ms ∧ goodK kFall l ms) ∧ v = .tuple [.agg [.slice H.length 0 l.length 9 false], .int .i64 0] ∧ h' = H ++ [.cells (avR (fun j => (lefS l ms j).av) l.length) true]) ∨
      (¬ (goodK kLong l ms ∧ goodK kFall l ms) ∧ v = .tuple [.agg [.nilslice], .int .i64 8] ∧ h' = H)) :=
  (c_Narrow H l id off ex ms mv hs hv hm hn hok).mono fun _ _ h => by
    rcases h with ⟨h1, h2, h3, h4⟩ | ⟨h1, h2, h3 | h3⟩
    · exact .inl ⟨⟨h2, h3⟩, h1, h4⟩
    · exact .inr ⟨fun h => not_good h3 h.1, h1, h2⟩
    · exact .inr ⟨fun h => not_good h3 h.2, h1, h2⟩
def nrw (s o : Str) : Prop := o.lLo ≤ s.lLo ∧ s.lHi ≤ o.lHi ∧ o.fLo ≤ s.fLo ∧ s.fHi ≤ o.fHi
theorem rowsMs : ∀ (h : Heap) (rows : List (List AV)), (∀ r ∈ rows, lookL h [.int .u8, .int .i64, .int .i64, .int .i64, .int .i64] r) →
    ∃ ms : List Ms, rows.flatten = ms.flatMap Ms.av ∧ ms.length = rows.length ∧ (ms.flatMap Ms.av).length = ms.length * 5 ∧ ∀ i (h : i < ms.length), 0 ≤ ms[i].k ∧ ms[i].k ≤ 255
  | _, [], _ => ⟨[], rfl, rfl, rfl, by intro i h; simp at h⟩
  | h, r :: rs, hr => by
    obtain ⟨l, h1, h2, h4, h5⟩ := rowsMs h rs (fun r' h' => hr r' (List.mem_cons_of_mem _ h'))
    have h3 := hr r (List.mem_cons_self ..)
    simp only [lookL, QK.look] at h3
    obtain ⟨_, _, rfl, ⟨a1, rfl, b1, b2⟩, _, _, rfl, ⟨a2, rfl, _⟩, _, _, rfl, ⟨a3, rfl, _⟩, _, _, rfl, ⟨a4, rfl, _⟩, _, _, rfl, ⟨a5, rfl, _⟩, rfl⟩ := h3
    refine ⟨⟨a1, a2, a3, a4, a5⟩ :: l, by simp [h1, Ms.av], by simp [h2], by rw [List.flatMap_cons, List.length_append, h4, Ms.av_length, List.length_cons]; omega, fun i hi => ?_⟩
    cases i with
    | zero => exact ⟨b1, b2⟩
    | succ i => exact h5 i (by simpa using hi)
theorem lef_nrw {l : List Str} {ms : List Ms} (hm : ∀ i (h : i < ms.length), ms[i].ok l.length) (hL : goodK kLong l ms) (hF : goodK kFall l ms) : ∀ j, j < l.length → nrw (lefS l ms j) (strAt l j) := by
  intro j hj
  have h1 := closeK_in (k := kLong) hm hL hj
  have h2 := closeK_in (k := kFall) hm hF hj
  rw [lef_eq hj]
  simp only [kLo, kHi, kLong, kFall] at h1 h2
  simp only [nrw, putF, putL, kLong, kFall]
  omega
end Go.Proofs
