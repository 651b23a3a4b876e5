/- Several texts as one. -/
import Derived.Test.YtfklkmnogppfoaaGreatDD
import Derived.Test.YtfklkmnogppfoaaGreatAc0
/- Matrices of gaps: bound. -/
namespace Go.Proofs
open Go.Abs
attribute [local simp] AOp.den AOpd.ev lk cellsOf rd_new rd_new0 rd_zero rd_succ wr_new wr_new0 wr_zero wr_succ splice fillA binA scal sliceCells List.length_append argsT AV.sc scL AObj.sc resV getAll AR.get AOp.slots opdSlots opdsSlots partSlots eqAt at_new0 at_new set_new0 set_new wrap64
set_option linter.unusedSimpArgs false
set_option linter.unusedVariables false
abbrev Mat := Nat → Nat → Int
def rG (M : Mat) (i : Nat) : List AV := avL (M i) 13
theorem plain_G (M : Mat) : PlainRow 13 (rG M) := ⟨fun _ => avL_length _ _, fun _ => ⟨avL_scal _ _, fun m => avL_sc _ _ m, fun ρ => avL_ren ρ _ _⟩⟩
def gO (M : Mat) : AObj := .cells (avR (rG M) 13) true
def updM (M : Mat) (a b : Nat) (x : Int) : Mat := fun i j => if i = a ∧ j = b then x else M i j
theorem updM_row (M : Mat) (a b : Nat) (x : Int) (hb : b < 13) : rG (updM M a b x) a = splice (rG M a) b [.int .i64 x] := by
  have : b = 0 ∨ b = 1 ∨ b = 2 ∨ b = 3 ∨ b = 4 ∨ b = 5 ∨ b = 6 ∨ b = 7 ∨ b = 8 ∨ b = 9 ∨ b = 10 ∨ b = 11 ∨ b = 12 := by omega
  rcases this with rfl | rfl | rfl | rfl | rfl | rfl | rfl | rfl | rfl | rfl | rfl | rfl | rfl <;> simp [rG, avL, updM, List.range_succ]
theorem gO_rd {H : Heap} {id : Nat} {M : Mat} {a b : Nat} (h : H[id]? = some (gO M)) (ha : a < 13) (hb : b < 13) : rd H id (a * 13 + b) 1 = some [.int .i64 (M a b)] := by
  unfold rd
  simp only [h, gO]
  rw [if_pos (by rw [(plain_G M).length]; omega), (plain_G M).part ha (by omega)]
  have : b = 0 ∨ b = 1 ∨ b = 2 ∨ b = 3 ∨ b = 4 ∨ b = 5 ∨ b = 6 ∨ b = 7 ∨ b = 8 ∨ b = 9 ∨ b = 10 ∨ b = 11 ∨ b = 12 := by omega
  rcases this with rfl | rfl | rfl | rfl | rfl | rfl | rfl | rfl | rfl | rfl | rfl | rfl | rfl <;> rfl
theorem gO_wr {H : Heap} {id : Nat} {M : Mat} {a b : Nat} (x : Int) (h : H[id]? = some (gO M)) (ha : a < 13) (hb : b < 13) : wr H id (a * 13 + b) [.int .i64 x] = some (H.set id (gO (updM M a b x))) := by
  unfold wr
  simp only [h, gO]
  rw [if_pos (by rw [(plain_G M).length]; simp; omega), (plain_G M).put (plain_G (updM M a b x)) ha (by simp; omega) (updM_row M a b x hb) (fun j _ hj => by simp only [rG, updM, avL, hj, false_and, if_false])]
theorem gO_chg (H : Heap) (id : Nat) (M : Mat) : Changed H (H.set id (gO M)) := chg_set H id true ((plain_G M).plain 13)
theorem at_self {H : Heap} {id : Nat} (h : id < H.length) (o : AObj) : (H.set id o)[id]? = some o := by simp [h]

def mn (x y : Int) : Int := if y < x then y else x
def bnd (M : Mat) (a b : Nat) (lo hi : Int) : Mat := updM (updM M a b (mn (M a b) hi)) b a (mn (updM M a b (mn (M a b) hi) b a) (-lo))

theorem c_bound (H : Heap) (id : Nat) (M : Mat) (a b : Nat) (lo hi : Int) (h : H[id]? = some (gO M)) (ha : a < 13) (hb : b < 13) (hl : -1000000000 ≤ lo ∧ lo ≤ 1000000000) :
    ACalls Tryz.prog F.track_gaps_bound [.ptr id 0, .int .i64 a, .int .i64 b, .agg [.int .i64 lo, .int .i64 hi]] H (fun v h' => v = .tuple [] ∧ h' = H.set id (gO (bnd M a b lo hi))) := by
  refine acalls_of ok_track_gaps_bound rfl fun hcl => ?_
  unfold ac_track_gaps_bound
  simp only [argsT, Nat.zero_add, Nat.reduceAdd]
  have hid := (List.getElem?_eq_some_iff.1 h).1
  have r1 := gO_rd h ha hb
  have w1 := gO_wr (mn (M a b) hi) h ha hb
  have hc1 := gO_chg H id (updM M a b (mn (M a b) hi))
  have h2 := at_self hid (gO (updM M a b (mn (M a b) hi)))
  generalize hM : updM M a b (mn (M a b) hi) = M2 at *
  generalize hH : H.set id (gO M2) = H2 at *
  have hid2 := (List.getElem?_eq_some_iff.1 h2).1
  have r2 := gO_rd h2 hb ha
  have w2 := gO_wr (mn (M2 b a) (-lo)) h2 hb ha
  have hn : IntKind.i64.wrap (0 - lo) = -lo := by rw [wrap64] <;> omega
  have hL : H2.length = H.length := hc1.1
  simp only [mn] at w1
  repeat (first|(with_reducible first|apply X1|apply X2|apply X8|apply Y9)|((with_reducible first|apply e_end|apply d_end);(simp;exact Red.rfl))|((first|((with_reducible apply O1);rfl)|((with_reducible apply P1);rfl)|((with_reducible apply P2);rfl)|((with_reducible apply P4);rfl));(simp (disch:=omega) [rd_old _ hid, wr_old _ hid, r1, w1, ha, hb, hL];exact Red.rfl);exact Red.rfl;(focus (first|(simp;done)|omega|(simp;omega)))))
  rw [← hL]
  have hL3 := (gO_chg H2 id (updM M2 b a (mn (M2 b a) (-lo)))).1
  have hc2 := gO_chg H2 id (updM M2 b a (mn (M2 b a) (-lo)))
  have hf : H2.set id (gO (updM M2 b a (mn (M2 b a) (-lo)))) = H.set id (gO (bnd M a b lo hi)) := by rw [← hH, List.set_set, bnd, hM]
  generalize hH3 : H2.set id (gO (updM M2 b a (mn (M2 b a) (-lo)))) = H3 at *
  simp only [mn] at w2
  repeat (first|((with_reducible apply d_end);(simp;exact Red.rfl))|((first|((with_reducible apply P1);rfl)|((with_reducible apply P2);rfl)|((with_reducible apply P4);rfl));(simp (disch:=omega) [rd_old _ hid2, wr_old _ hid2, r2, w2, ha, hb, hL3, hn];exact Red.rfl);exact Red.rfl;(focus (first|(simp;done)|omega|(simp;omega)))))
  exact q_dropC (hc1.trans hc2) (.inl rfl) (by simp; exact Red.rfl) (by simp) ⟨rfl, hf⟩
def rndM (M : Mat) (n o a b : Nat) : Mat := fun i j => if (i < a ∨ (i = a ∧ j < b)) ∧ i ≤ n ∧ j ≤ n then mn (M i j) (M i o + M o j) else M i j
def closeM (M : Mat) (n : Nat) : Nat → Mat
  | 0 => M
  | k + 1 => rndM (closeM M n k) n k (n + 1) 0
theorem rndM_start (M : Mat) (n o : Nat) : rndM M n o 0 0 = M := by
  funext i j; simp [rndM]
theorem rndM_row (M : Mat) (n o a : Nat) : rndM M n o a (n + 1) = rndM M n o (a + 1) 0 := by
  funext i j
  simp only [rndM]
  by_cases h : (i < a ∨ i = a ∧ j < n + 1) ∧ i ≤ n ∧ j ≤ n
  · rw [if_pos h, if_pos (by omega)]
  · rw [if_neg h, if_neg (by omega)]
theorem rndM_io (M : Mat) {n o a b i : Nat} (ho : 0 ≤ M o o) : rndM M n o a b i o = M i o := by
  simp only [rndM, mn]
  split
  · rw [if_neg (by omega)]
  · rfl
theorem rndM_oj (M : Mat) {n o a b j : Nat} (ho : 0 ≤ M o o) : rndM M n o a b o j = M o j := by
  simp only [rndM, mn]
  split
  · rw [if_neg (by omega)]
  · rfl
theorem rndM_ab (M : Mat) (n o a b : Nat) : rndM M n o a b a b = M a b := by
  simp [rndM]
theorem rndM_step (M : Mat) {n o a b : Nat} (ha : a ≤ n) (hb : b ≤ n) : updM (rndM M n o a b) a b (mn (M a b) (M a o + M o b)) = rndM M n o a (b + 1) := by
  funext i j
  simp only [rndM, updM]
  by_cases h : i = a ∧ j = b
  · obtain ⟨rfl, rfl⟩ := h
    rw [if_pos ⟨rfl, rfl⟩, if_pos (by omega)]
  · rw [if_neg h]
    by_cases h2 : (i < a ∨ i = a ∧ j < b) ∧ i ≤ n ∧ j ≤ n
    · rw [if_pos h2, if_pos (by omega)]
    · rw [if_neg h2, if_neg (by omega)]
theorem rndM_bd {M : Mat} {n o a b : Nat} {L U : Int} (ho : o ≤ n) (hL : 0 ≤ L) (hU : 0 ≤ U) (h : ∀ i j, i ≤ n → j ≤ n → -L ≤ M i j ∧ M i j ≤ U) : ∀ i j, i ≤ n → j ≤ n → -(2 * L) ≤ rndM M n o a b i j ∧ rndM M n o a b i j ≤ U := by
  intro i j hi hj
  have h1 := h i j hi hj
  have h2 := h i o hi ho
  have h3 := h o j ho hj
  simp only [rndM, mn]
  split
  · split <;> omega
  · omega
theorem closeM_bd {M : Mat} {n : Nat} {L U : Int} (hL : 0 ≤ L) (hU : 0 ≤ U) (h : ∀ i j, i ≤ n → j ≤ n → -L ≤ M i j ∧ M i j ≤ U) : ∀ k, k ≤ n + 1 → ∀ i j, i ≤ n → j ≤ n → -(2 ^ k * L) ≤ closeM M n k i j ∧ closeM M n k i j ≤ U
  | 0, _ => by simpa [closeM] using h
  | k + 1, hk => by
    intro i j hi hj
    have h0 : 0 ≤ 2 ^ k * L := Int.mul_nonneg (Int.pow_nonneg (by omega)) hL
    have := rndM_bd (a := n + 1) (b := 0) (o := k) (by omega) h0 hU (closeM_bd hL hU h k (by omega)) i j hi hj
    simp only [closeM]
    rw [Int.pow_succ, show (2 : Int) ^ k * 2 * L = 2 * (2 ^ k * L) by rw [Int.mul_comm (2 ^ k) 2, Int.mul_assoc]]
    exact this
theorem pow2_le {k : Nat} (h : k ≤ 13) : (2 : Int) ^ k * 1000000 ≤ 8192000000 := by
  have : k = 0 ∨ k = 1 ∨ k = 2 ∨ k = 3 ∨ k = 4 ∨ k = 5 ∨ k = 6 ∨ k = 7 ∨ k = 8 ∨ k = 9 ∨ k = 10 ∨ k = 11 ∨ k = 12 ∨ k = 13 := by omega
  rcases this with rfl | rfl | rfl | rfl | rfl | rfl | rfl | rfl | rfl | rfl | rfl | rfl | rfl | rfl <;> decide

theorem c_shorten (H : Heap) (id : Nat) (M : Mat) (n : Nat) (h : H[id]? = some (gO M)) (hn : n < 13) (hd : ∀ i, i ≤ n → 0 ≤ M i i) (hb : ∀ i j, i ≤ n → j ≤ n → -1000000 ≤ M i j ∧ M i j ≤ 1000000) :
    ACalls Tryz.prog F.track_gaps_shorten [.ptr id 0, .int .i64 n] H (fun v h' => ∃ k, k ≤ n + 1 ∧ h' = H.set id (gO (closeM M n k)) ∧
      ((v = .bool true ∧ k = n + 1 ∧ ∀ i, i ≤ n → 0 ≤ closeM M n k i i) ∨ (v = .bool false ∧ ∃ i, i ≤ n ∧ closeM M n k i i < 0))) := by
  refine acalls_of ok_track_gaps_shorten rfl fun hcl => ?_
  unfold ac_track_gaps_shorten
  simp only [argsT, Nat.zero_add, Nat.reduceAdd]
  have hid := (List.getElem?_eq_some_iff.1 h).1
  have bd := closeM_bd (M := M) (n := n) (L := 1000000) (U := 1000000) (by omega) (by omega) hb
  repeat (first|(with_reducible first|apply X1|apply X2|apply X6|apply X8)|((with_reducible apply e_end);(simp;exact Red.rfl))|((with_reducible apply O1);rfl;(simp (disch:=omega);exact Red.rfl);exact Red.rfl;(focus (first|(simp;done)|omega|(simp;omega)))))
  refine e_loop (ι := { k : Nat // k ≤ n + 1 ∧ ∀ i, i ≤ n → 0 ≤ closeM M n k i i })
    (fun k => [(0, .ptr id 0), (1, .int .i64 n), (10, .int .i64 ((n : Int) + 1)), (11, .int .i64 k.1)])
    (fun k => H.set id (gO (closeM M n k.1))) (fun k => n + 1 - k.1) ⟨0, by omega, hd⟩ ?_ ?_
  · have e : H.set id (gO (closeM M n 0)) = H := by
      rw [closeM]
      rw [← (List.getElem?_eq_some_iff.1 h).2]; simp
    exact .inr <| by rw [e]; exact le_id (by simp [hid])
  · rintro ⟨k, hk, hdk⟩
    dsimp only
    have bk := bd k hk
    have hp := pow2_le (show k ≤ 13 by omega)
    by_cases hlt : k < n + 1
    · have hlt2 : (k : Int) < (n : Int) + 1 := by omega
      have hck := hdk k (by omega)
      have bk1 := bd k hk
      generalize hN : closeM M n k = N at *
      repeat (first|(with_reducible first|apply X1|apply X2|apply X5|apply X6|apply X8)|((with_reducible apply e_end);(simp;exact Red.rfl))|((with_reducible apply O1);rfl;(simp (disch:=omega) [hlt2];exact Red.rfl);exact Red.rfl;(focus (first|(simp;done)|omega|(simp;omega))))|((with_reducible apply Z9);(simp (disch:=omega) [hlt2];exact Red.rfl)))
      refine e_loop (ι := { a : Nat // a ≤ n + 1 })
        (fun a => [(0, .ptr id 0), (1, .int .i64 n), (5, .int .i64 k), (10, .int .i64 ((n : Int) + 1)), (11, .int .i64 k), (15, .int .i64 ((n : Int) + 1)), (16, .int .i64 a.1)])
        (fun a => H.set id (gO (rndM N n k a.1 0))) (fun a => n + 1 - a.1) ⟨0, by omega⟩ ?_ ?_
      · rw [rndM_start]
        exact .inr <| le_chg (gO_chg H id N) (le_id (by simp [hid]))
      · rintro ⟨a, ha⟩
        dsimp only
        by_cases hla : a < n + 1
        · have hla2 : (a : Int) < (n : Int) + 1 := by omega
          generalize hH2 : H.set id (gO (rndM N n k a 0)) = H2
          repeat (first|(with_reducible first|apply X1|apply X2|apply X5|apply X6|apply X8)|((with_reducible apply e_end);(simp;exact Red.rfl))|((with_reducible apply O1);rfl;(simp (disch:=omega) [hla2];exact Red.rfl);exact Red.rfl;(focus (first|(simp;done)|omega|(simp;omega))))|((with_reducible apply Z9);(simp (disch:=omega) [hla2];exact Red.rfl)))
          refine e_loop (ι := { b : Nat // b ≤ n + 1 })
            (fun b => [(0, .ptr id 0), (1, .int .i64 n), (5, .int .i64 k), (6, .int .i64 a), (10, .int .i64 ((n : Int) + 1)), (11, .int .i64 k), (15, .int .i64 ((n : Int) + 1)), (16, .int .i64 a), (20, .int .i64 ((n : Int) + 1)), (21, .int .i64 b.1)])
            (fun b => H.set id (gO (rndM N n k a b.1))) (fun b => n + 1 - b.1) ⟨0, by omega⟩ ?_ ?_
          · subst hH2
            exact .inr <| le_chg (gO_chg H id _) (le_id (by simp [hid]))
          · rintro ⟨b, hb2⟩
            dsimp only
            by_cases hlb : b < n + 1
            · have hlb2 : (b : Int) < (n : Int) + 1 := by omega
              have h2 := at_self hid (gO (rndM N n k a b))
              have hc2 := gO_chg H id (rndM N n k a b)
              have r1 := gO_rd h2 (show a < 13 by omega) (show b < 13 by omega)
              have r2 := gO_rd h2 (show a < 13 by omega) (show k < 13 by omega)
              have r3 := gO_rd h2 (show k < 13 by omega) (show b < 13 by omega)
              have w := gO_wr (mn (N a b) (N a k + N k b)) h2 (show a < 13 by omega) (show b < 13 by omega)
              rw [rndM_ab] at r1
              rw [rndM_io N hck] at r2
              rw [rndM_oj N hck] at r3
              rw [rndM_step N (by omega) (by omega), List.set_set] at w
              have b1 := bk a k (by omega) (by omega)
              have b2 := bk k b (by omega) (by omega)
              have hl3 : (H.set id (gO (rndM N n k a b))).length = H.length := by simp
              have hl4 : (H.set id (gO (rndM N n k a (b + 1)))).length = H.length := by simp
              have hc4 := gO_chg H id (rndM N n k a (b + 1))
              generalize hH3 : H.set id (gO (rndM N n k a b)) = H3 at *
              generalize hH4 : H.set id (gO (rndM N n k a (b + 1))) = H4 at *
              have hwr : IntKind.i64.wrap (N a k + N k b) = N a k + N k b := by rw [wrap64] <;> omega
              simp only [mn] at w
              repeat (first|(with_reducible first|apply X1|apply X2|apply X5|apply X6|apply X8|apply Y2|apply Y9)|((with_reducible first|apply e_end|apply d_end);(simp;exact Red.rfl))|((first|((with_reducible apply O1);rfl)|((with_reducible apply P1);rfl)|((with_reducible apply P2);rfl)|((with_reducible apply P4);rfl));(simp (disch:=omega) [hlb2, r1, r2, r3, w, hwr, show a < 13 by omega, show b < 13 by omega, show k < 13 by omega, hl3, hl4, hid];exact Red.rfl);exact Red.rfl;(focus (first|(simp;done)|omega|(simp;omega))))|((with_reducible apply Z9);(simp (disch:=omega) [hlb2, r1, r2, r3, w, hwr, show a < 13 by omega, show b < 13 by omega, show k < 13 by omega, hl3, hl4, hid];exact Red.rfl)))
              refine q_again ⟨b + 1, by omega⟩ (by dsimp only; omega) (.inr ?_)
              simp only [hH4]
              exact le_chg hc4 (le_id (by simp [hl4, hid]))
            · have hlb2 : ¬ (b : Int) < (n : Int) + 1 := by omega
              obtain rfl : b = n + 1 := by omega
              have hc3 := gO_chg H id (rndM N n k a (n + 1))
              have hl3 : (H.set id (gO (rndM N n k a (n + 1)))).length = H.length := by simp
              rw [rndM_row] at hc3 hl3 ⊢
              generalize hH3 : H.set id (gO (rndM N n k (a + 1) 0)) = H3 at *
              repeat (first|(with_reducible first|apply X1|apply X2|apply X4|apply X8|apply Y1|apply Y2|apply Y4|apply Y6)|((with_reducible apply e_end);(simp;exact Red.rfl))|((with_reducible apply O1);rfl;(simp (disch:=omega) [hlb2];exact Red.rfl);exact Red.rfl;(focus (first|(simp;done)|omega|(simp;omega))))|((with_reducible apply W3);(simp (disch:=omega) [hlb2];exact Red.rfl)))
              refine q_again ⟨a + 1, by omega⟩ (by dsimp only; omega) (.inr ?_)
              simp only [hH3]
              exact le_chg hc3 (le_id (by simp [hl3, hid]))
        · have hla2 : ¬ (a : Int) < (n : Int) + 1 := by omega
          obtain rfl : a = n + 1 := by omega
          have eN : rndM N n k (n + 1) 0 = closeM M n (k + 1) := by rw [closeM, hN]
          have b2 := bd (k + 1) (by omega)
          rw [eN]
          have hc3 := gO_chg H id (closeM M n (k + 1))
          have h2 := at_self hid (gO (closeM M n (k + 1)))
          have hl3 : (H.set id (gO (closeM M n (k + 1)))).length = H.length := by simp
          generalize hH3 : H.set id (gO (closeM M n (k + 1))) = H3 at *
          repeat (first|(with_reducible first|apply X1|apply X2|apply X4|apply X6|apply X8|apply Y1|apply Y4|apply Y6)|((with_reducible apply e_end);(simp;exact Red.rfl))|((with_reducible apply O1);rfl;(simp (disch:=omega) [hla2];exact Red.rfl);exact Red.rfl;(focus (first|(simp;done)|omega|(simp;omega))))|((with_reducible apply W3);(simp (disch:=omega) [hla2];exact Red.rfl)))
          refine e_loop (ι := { c : Nat // c ≤ n + 1 ∧ ∀ i, i < c → 0 ≤ closeM M n (k + 1) i i })
            (fun c => [(0, .ptr id 0), (1, .int .i64 n), (10, .int .i64 ((n : Int) + 1)), (11, .int .i64 k), (56, .int .i64 ((n : Int) + 1)), (57, .int .i64 c.1)])
            (fun c => H3) (fun c => n + 1 - c.1) ⟨0, by omega, by omega⟩ ?_ ?_
          · exact .inr <| le_chg hc3 (le_id (by simp [hl3, hid]))
          · rintro ⟨c, hcn, hcc⟩
            dsimp only
            by_cases hlc : c < n + 1
            · have hlc2 : (c : Int) < (n : Int) + 1 := by omega
              have r1 := gO_rd h2 (show c < 13 by omega) (show c < 13 by omega)
              by_cases hneg : closeM M n (k + 1) c c < 0
              · repeat (first|(with_reducible first|apply X1|apply X2|apply X3|apply X5|apply X6|apply X8|apply X9|apply Y3|apply Y5)|((with_reducible apply e_end);(simp;exact Red.rfl))|((with_reducible apply O1);rfl;(simp (disch:=omega) [hlc2, r1, hneg, show c < 13 by omega];exact Red.rfl);exact Red.rfl;(focus (first|(simp;done)|omega|(simp;omega))))|((with_reducible apply Z9);(simp (disch:=omega) [hlc2, r1, hneg, show c < 13 by omega];exact Red.rfl)))
                exact q_dropC0 hc3 (.inr rfl) (by simp; exact Red.rfl) (by simp) ⟨k + 1, by omega, hH3.symm, .inr ⟨rfl, c, by omega, hneg⟩⟩
              · repeat (first|(with_reducible first|apply X1|apply X2|apply X5|apply X6|apply X8|apply Y2)|((with_reducible apply e_end);(simp;exact Red.rfl))|((with_reducible apply O1);rfl;(simp (disch:=omega) [hlc2, r1, hneg, show c < 13 by omega];exact Red.rfl);exact Red.rfl;(focus (first|(simp;done)|omega|(simp;omega))))|((with_reducible apply Z9);(simp (disch:=omega) [hlc2, r1, hneg, show c < 13 by omega];exact Red.rfl))|((with_reducible apply W3);(simp (disch:=omega) [hlc2, r1, hneg, show c < 13 by omega];exact Red.rfl)))
                refine q_again ⟨c + 1, by omega, fun i hi => ?_⟩ (by dsimp only; omega) (.inr ?_)
                · rcases Nat.lt_or_ge i c with h | h
                  · exact hcc i h
                  · obtain rfl : i = c := by omega
                    omega
                · exact le_chg hc3 (le_id (by simp [hl3, hid]))
            · have hlc2 : ¬ (c : Int) < (n : Int) + 1 := by omega
              obtain rfl : c = n + 1 := by omega
              repeat (first|(with_reducible first|apply X1|apply X2|apply X4|apply X8|apply Y1|apply Y2|apply Y4|apply Y6)|((with_reducible apply e_end);(simp;exact Red.rfl))|((with_reducible apply O1);rfl;(simp (disch:=omega) [hlc2];exact Red.rfl);exact Red.rfl;(focus (first|(simp;done)|omega|(simp;omega))))|((with_reducible apply W3);(simp (disch:=omega) [hlc2];exact Red.rfl)))
              refine q_again ⟨k + 1, by omega, fun i hi => hcc i (by omega)⟩ (by dsimp only; omega) (.inr ?_)
              simp only [hH3]
              exact le_chg hc3 (le_id (by simp [hl3, hid]))
    · have hlt2 : ¬ (k : Int) < (n : Int) + 1 := by omega
      obtain rfl : k = n + 1 := by omega
      have hc3 := gO_chg H id (closeM M n (n + 1))
      generalize hH3 : H.set id (gO (closeM M n (n + 1))) = H3 at *
      repeat (first|(with_reducible first|apply X1|apply X2|apply X3|apply X4|apply X8|apply Y1|apply Y4|apply Y6)|((with_reducible apply e_end);(simp;exact Red.rfl))|((with_reducible apply O1);rfl;(simp (disch:=omega) [hlt2];exact Red.rfl);exact Red.rfl;(focus (first|(simp;done)|omega|(simp;omega))))|((with_reducible apply W3);(simp (disch:=omega) [hlt2];exact Red.rfl)))
      exact q_dropC0 hc3 (.inr rfl) (by simp; exact Red.rfl) (by simp) ⟨n + 1, by omega, hH3.symm, .inl ⟨rfl, rfl, hdk⟩⟩
structure Ms where
  k : Int
  f : Int
  t : Int
  lo : Int
  hi : Int
def Ms.av (m : Ms) : List AV := [.int .u8 m.k, .int .i64 m.f, .int .i64 m.t, .int .i64 m.lo, .int .i64 m.hi]
theorem Ms.av_length (m : Ms) : m.av.length = 5 := rfl
def Ms.ok (n : Nat) (m : Ms) : Prop := (m.k = 1 ∨ m.k = 2) ∧ 0 ≤ m.f ∧ m.f < m.t ∧ m.t ≤ n ∧ 0 ≤ m.lo ∧ m.lo ≤ m.hi ∧ m.hi ≤ 360000
def okMs (n : Nat) (ms : List Ms) : Prop := ms.length ≤ 12 ∧ ∀ i (h : i < ms.length), ms[i].ok n

theorem le_drop2 {H G G2 : Heap} {t t' : List (Nat × AV)} (hG : ∀ o ∈ G, o.sc (H.length + G.length) = true) (hv : ∀ x ∈ t', x.2.sc (H.length + G.length) = true ∧ lk t x.1 = x.2) : Le H ⟨t, H ++ (G ++ G2)⟩ ⟨t', H ++ G⟩ := le_take hG hv
theorem c_told (H : Heap) (k : Int) : ACalls Tryz.prog F.track_told [.int .u8 k] H (fun v h' => v = .bool (decide (k = 1 ∨ k = 2)) ∧ h' = H) := by
  refine acalls_of ok_track_told rfl fun hcl => ?_
  unfold ac_track_told
  simp only [argsT, Nat.zero_add, Nat.reduceAdd]
  repeat (first|(with_reducible first|apply X1|apply X2|apply X8)|((with_reducible apply e_end);(simp;exact Red.rfl))|((with_reducible apply O1);rfl;(simp (disch:=omega);exact Red.rfl);exact Red.rfl;(focus (first|(simp;done)|omega|(simp;omega)))))
  (with_reducible apply e_call); (simp; exact Red.rfl); exact c_kinds _
  rintro _ h2 ⟨rfl, hh⟩
  rw [hh]; clear hh h2
  repeat (first|(with_reducible first|apply X6|apply X8)|((with_reducible apply e_end);(simp;exact Red.rfl))|((with_reducible apply O1);rfl;(simp (disch:=omega);exact Red.rfl);exact Red.rfl;(focus (first|(simp;done)|omega|(simp;omega)))))
  refine e_loop (ι := { i : Nat // i ≤ 2 ∧ (0 < i → k ≠ 1) ∧ (1 < i → k ≠ 2) })
    (fun i => [(0, .int .u8 k), (5, .agg [.int .u8 1, .fn (.func F.track_kinds_1) [] [], .int .u8 2, .fn (.func F.track_kinds_2) [] []]), (6, .int .i64 i.1)])
    (fun i => H) (fun i => 2 - i.1) ⟨0, by omega⟩ ?_ ?_
  · exact .inr <| le_id (by simp)
  · rintro ⟨i, hi, h1, h2⟩
    dsimp only
    have : i = 0 ∨ i = 1 ∨ i = 2 := by omega
    rcases this with rfl | rfl | rfl
    · by_cases hk : k = 1
      · subst hk
        repeat (first|(with_reducible first|apply X1|apply X2|apply X3|apply X5|apply X6|apply X8|apply X9|apply Y3|apply Y5)|((with_reducible apply e_end);(simp;exact Red.rfl))|((first|((with_reducible apply O1);rfl)|((with_reducible apply O2);rfl));(simp (disch:=omega);exact Red.rfl);exact Red.rfl;(focus (first|(simp;done)|omega|(simp;omega))))|((with_reducible apply Z9);(simp (disch:=omega);exact Red.rfl)))
        refine q_drop (.inr rfl) (by simp; exact Red.rfl) (by simp) ⟨by simp, rfl⟩
      · have hk2 : ¬ 1 = k := by omega
        repeat (first|(with_reducible first|apply X1|apply X2|apply X5|apply X6|apply X8|apply Y2)|((with_reducible apply e_end);(simp;exact Red.rfl))|((first|((with_reducible apply O1);rfl)|((with_reducible apply O2);rfl));(simp (disch:=omega) [hk, hk2];exact Red.rfl);exact Red.rfl;(focus (first|(simp;done)|omega|(simp;omega))))|((with_reducible apply Z9);(simp (disch:=omega) [hk, hk2];exact Red.rfl))|((with_reducible apply W3);(simp (disch:=omega) [hk, hk2];exact Red.rfl)))
        refine q_again ⟨1, by omega, by omega, by omega⟩ (by dsimp only; omega) (.inr ?_)
        exact le_drop (by simp)
    · by_cases hk : k = 2
      · subst hk
        repeat (first|(with_reducible first|apply X1|apply X2|apply X3|apply X5|apply X6|apply X8|apply X9|apply Y3|apply Y5)|((with_reducible apply e_end);(simp;exact Red.rfl))|((first|((with_reducible apply O1);rfl)|((with_reducible apply O2);rfl));(simp (disch:=omega);exact Red.rfl);exact Red.rfl;(focus (first|(simp;done)|omega|(simp;omega))))|((with_reducible apply Z9);(simp (disch:=omega);exact Red.rfl)))
        refine q_drop (.inr rfl) (by simp; exact Red.rfl) (by simp) ⟨by simp, rfl⟩
      · have hk2 : ¬ 2 = k := by omega
        repeat (first|(with_reducible first|apply X1|apply X2|apply X5|apply X6|apply X8|apply Y2)|((with_reducible apply e_end);(simp;exact Red.rfl))|((first|((with_reducible apply O1);rfl)|((with_reducible apply O2);rfl));(simp (disch:=omega) [hk, hk2];exact Red.rfl);exact Red.rfl;(focus (first|(simp;done)|omega|(simp;omega))))|((with_reducible apply Z9);(simp (disch:=omega) [hk, hk2];exact Red.rfl))|((with_reducible apply W3);(simp (disch:=omega) [hk, hk2];exact Red.rfl)))
        refine q_again ⟨2, by omega, by omega, by omega⟩ (by dsimp only; omega) (.inr ?_)
        exact le_drop (by simp)
    · repeat (first|(with_reducible first|apply X1|apply X2|apply X3|apply X4|apply X8|apply Y1|apply Y4|apply Y6)|((with_reducible apply e_end);(simp;exact Red.rfl))|((with_reducible apply O1);rfl;(simp (disch:=omega);exact Red.rfl);exact Red.rfl;(focus (first|(simp;done)|omega|(simp;omega))))|((with_reducible apply W3);(simp (disch:=omega);exact Red.rfl)))
      have := h1 (by omega)
      have := h2 (by omega)
      refine q_drop0 (.inr rfl) (by simp; exact Red.rfl) (by simp) ⟨by simp [*], rfl⟩

def SlM (H : Heap) (mv : AV) (ms : List Ms) : Prop := (mv = .nilslice ∧ ms = []) ∨ ∃ id off ex, mv = .slice id off ms.length 5 ex ∧ rd H id off (ms.length * 5) = some (ms.flatMap Ms.av)
theorem SlM.sc {H : Heap} {mv : AV} {ms : List Ms} (h : SlM H mv ms) {n : Nat} (hn : H.length ≤ n) : mv.sc n = true := by
  rcases h with ⟨rfl, _⟩ | ⟨id, off, ex, rfl, h⟩
  · rfl
  · have := rd_lt h
    simp [AV.sc]; omega
theorem SlM.ren {H : Heap} {mv : AV} {ms : List Ms} (h : SlM H mv ms) (ps : List Nat) : mv.ren (sh H.length ps) = mv := ren_id (m := H.length) (fun i hi => by simp [sh, hi]) _ (h.sc (Nat.le_refl _))
theorem SlM.app {H : Heap} {mv : AV} {ms : List Ms} (h : SlM H mv ms) (G : Heap) : SlM (H ++ G) mv ms := by
  rcases h with h | ⟨id, off, ex, rfl, h⟩
  · exact .inl h
  · exact .inr ⟨id, off, ex, rfl, by rw [rd_old _ (rd_lt h)]; exact h⟩
theorem den_len {ev : AOpd → AV} {x : AOpd} {H h : Heap} {mv : AV} {ms : List Ms} (hx : ev x = mv) (hm : SlM H mv ms) : (AOp.len x).den ev h = .ok True (.int .i64 ms.length) h := by
  rcases hm with ⟨rfl, rfl⟩ | ⟨id, off, ex, rfl, _⟩ <;> simp [AOp.den, hx]

theorem c_agreed (H : Heap) (l : List Str) (id off : Nat) (ex : Bool) (ms : List Ms) (mv : AV) (hs : rd H id off (l.length * 9) = some (l.flatMap Str.av)) (hv : validL l) (hm : SlM H mv ms) (hn : (ms.length : Int) ≤ 9223372036854775807) :
    ACalls Tryz.prog F.track_agreed [.agg [.slice id off l.length 9 ex], mv] H (fun v h' => h' = H ∧ ∃ b : Bool, v = .bool b ∧ (b = true ↔ okMs l.length ms)) := by
  refine acalls_of ok_track_agreed rfl fun hcl => ?_
  unfold ac_track_agreed
  simp only [argsT, Nat.zero_add, Nat.reduceAdd]
  have hid := rd_lt hs
  have hsc := hm.sc (Nat.le_refl _)
  have hsc' : ∀ k, mv.sc (H.length + k) = true := fun k => hm.sc (Nat.le_add_right _ _)
  have h12 := hv.1
  by_cases hml : ms.length ≤ 12
  rotate_left
  · have hml2 : (12 : Int) < ms.length := by omega
    repeat (first|(with_reducible first|apply X1|apply X2|apply X8)|((with_reducible apply e_end);(simp;exact Red.rfl))|((with_reducible apply O1);rfl;(simp (disch:=omega);exact Red.rfl);exact Red.rfl;(focus (first|(simp;done)|omega|(simp;omega)))))
    (with_reducible apply e_op); rfl; exact den_len (by simp) hm; exact Red.rfl; trivial
    repeat (first|(with_reducible first|apply X1|apply X2|apply X3|apply X8|apply X9)|((with_reducible apply e_end);(simp;exact Red.rfl))|((with_reducible apply O1);rfl;(simp (disch:=omega) [hml2];exact Red.rfl);exact Red.rfl;(focus (first|(simp;done)|omega|(simp;omega))))|((with_reducible apply Z9);(simp (disch:=omega) [hml2];exact Red.rfl)))
    refine q_drop (.inr rfl) (by simp; exact Red.rfl) (by simp) ⟨rfl, false, rfl, by simp only [okMs]; constructor <;> intro h; cases h; exact absurd h.1 hml⟩
  · have hml2 : ¬ (12 : Int) < ms.length := by omega
    repeat (first|(with_reducible first|apply X1|apply X2|apply X8)|((with_reducible apply e_end);(simp;exact Red.rfl))|((with_reducible apply O1);rfl;(simp (disch:=omega);exact Red.rfl);exact Red.rfl;(focus (first|(simp;done)|omega|(simp;omega)))))
    (with_reducible apply e_op); rfl; exact den_len (by simp) hm; exact Red.rfl; trivial
    repeat (first|(with_reducible first|apply X1|apply X2|apply X5|apply X8)|((with_reducible apply e_end);(simp;exact Red.rfl))|((with_reducible apply O1);rfl;(simp (disch:=omega) [hml2];exact Red.rfl);exact Red.rfl;(focus (first|(simp;done)|omega|(simp;omega))))|((with_reducible apply W3);(simp (disch:=omega) [hml2];exact Red.rfl)))
    (with_reducible apply e_call); (simp; exact Red.rfl); exact c_upto _ _
    rintro _ _ ⟨rfl, rfl⟩
    repeat (first|(with_reducible first|apply X1|apply X2|apply X8)|((with_reducible apply e_end);(simp;exact Red.rfl))|((first|((with_reducible apply O1);rfl)|((with_reducible apply O2);rfl));(simp (disch:=omega);exact Red.rfl);exact Red.rfl;(focus (first|(simp;done)|omega|(simp;omega)))))
    (with_reducible apply e_op); rfl; exact den_len (by simp) hm; exact Red.rfl; trivial
    repeat (first|(with_reducible first|apply X6|apply X8)|((with_reducible apply e_end);(simp;exact Red.rfl))|((with_reducible apply O1);rfl;(simp (disch:=omega);exact Red.rfl);exact Red.rfl;(focus (first|(simp;done)|omega|(simp;omega)))))
    refine e_loop (ι := { i : Nat // i ≤ ms.length ∧ ∀ j (h : j < ms.length), j < i → ms[j].ok l.length })
      (fun i => [(5, .ptr (H.length + 1) 0), (15, mv), (16, .int .i64 ms.length), (17, .int .i64 i.1)])
      (fun i => H ++ [.cells [.slice id off l.length 9 ex] true, .cells [.int .i64 0, .int .i64 l.length] true]) (fun i => ms.length - i.1) ⟨0, by omega, by omega⟩ ?_ ?_
    · exact .inr <| le_same (by simp; omega) (by simp [Red, hsc'])
    · rintro ⟨i, hi, hok⟩
      dsimp only
      by_cases hlt : i < ms.length
      · have hlt2 : (i : Int) < ms.length := by omega
        obtain ⟨mid, moff, mex, rfl, hm2⟩ : ∃ id off ex, mv = .slice id off ms.length 5 ex ∧ rd H id off (ms.length * 5) = some (ms.flatMap Ms.av) := by
          rcases hm with ⟨_, rfl⟩ | h
          · simp at hlt
          · exact h
        have hmid := rd_lt hm2
        have hx := rd_row Ms.av_length hm2 hlt
        have hall : okMs l.length ms → ms[i].ok l.length := fun h => h.2 i hlt
        generalize hmi : ms[i] = m at hx hall
        obtain ⟨k, f, t, lo, hi2⟩ := m
        simp only [Ms.av] at hx
        simp only [Ms.ok] at hall
        repeat (first|(with_reducible first|apply X1|apply X2|apply X5|apply X6|apply X8)|((with_reducible apply e_end);(simp;exact Red.rfl))|((first|((with_reducible apply O1);rfl)|((with_reducible apply O2);rfl));(simp (disch:=omega) [hlt2, hlt, rd_old _ hmid, hx];exact Red.rfl);exact Red.rfl;(focus (first|(simp;done)|omega|(simp;omega))))|((with_reducible apply Z9);(simp (disch:=omega) [hlt2, hlt, rd_old _ hmid, hx];exact Red.rfl)))
        (with_reducible apply e_call); (simp; exact Red.rfl); exact c_told _ _
        rintro _ _ ⟨rfl, rfl⟩
        by_cases hk : k = 1 ∨ k = 2
        · repeat (first|((with_reducible apply O1);rfl;(simp (disch:=omega) [hk];exact Red.rfl);exact Red.rfl;(focus (first|(simp;done)|omega|(simp;omega))))|((with_reducible apply Z7);(simp (disch:=omega) [hk];exact Red.rfl)))
          (with_reducible apply e_call); (simp; exact Red.rfl); exact c_within _ 0 (l.length : Int) [f, t] (H.length + 3) 0 true (by simp) (by simp)
          rintro v _ ⟨hv2, rfl⟩
          by_cases hw : 0 ≤ f ∧ f ≤ l.length ∧ 0 ≤ t ∧ t ≤ l.length
          · obtain rfl : v = .bool true := by rw [hv2, AV.bool.injEq]; simp; omega
            by_cases hft : t ≤ f
            · repeat (first|(with_reducible first|apply X1|apply X2|apply X3|apply X8|apply X9|apply Y3|apply Y5)|((with_reducible apply e_end);(simp;exact Red.rfl))|((with_reducible apply O1);rfl;(simp (disch:=omega) [hft];exact Red.rfl);exact Red.rfl;(focus (first|(simp;done)|omega|(simp;omega))))|((with_reducible first|apply Z7|apply Z9);(simp (disch:=omega) [hft];exact Red.rfl)))
              refine q_drop (.inr rfl) (by simp; exact Red.rfl) (by simp) ⟨rfl, false, rfl, by constructor <;> intro h; cases h; have := hall h; omega⟩
            · repeat (first|(with_reducible first|apply X1|apply X5|apply X8|apply Y9)|((with_reducible apply e_end);(simp;exact Red.rfl))|((first|((with_reducible apply O1);rfl)|((with_reducible apply P1);rfl)|((with_reducible apply P2);rfl));(simp (disch:=omega) [hft];exact Red.rfl);exact Red.rfl;(focus (first|(simp;done)|omega|(simp;omega))))|((with_reducible apply Z7);(simp (disch:=omega) [hft];exact Red.rfl))|((with_reducible apply W3);(simp (disch:=omega) [hft];exact Red.rfl)))
              (with_reducible apply d_call); (simp; exact Red.rfl); exact c_upto _ _; (focus (first | (simp; done) | (simp; omega)))
              skip
              (with_reducible apply d_call); (simp; exact Red.rfl); exact c_fits _ _ _ _ _; (focus (first | (simp; done) | (simp; omega)))
              by_cases hfi : lo ≤ hi2 ∧ 0 ≤ lo ∧ hi2 ≤ 360000
              · repeat (first|(with_reducible first|apply X2|apply X5|apply X8|apply Y2)|((with_reducible first|apply e_end|apply d_end);(simp;exact Red.rfl))|((first|((with_reducible apply O1);rfl)|((with_reducible apply P1);rfl));(simp (disch:=omega) [hfi];exact Red.rfl);exact Red.rfl;(focus (first|(simp;done)|omega|(simp;omega))))|((with_reducible apply W3);(simp (disch:=omega) [hfi];exact Red.rfl)))
                refine q_again ⟨i + 1, by omega, fun j h hj => ?_⟩ (by dsimp only; omega) (.inr ?_)
                · rcases Nat.lt_or_ge j i with h3 | h3
                  · exact hok j h h3
                  · obtain rfl : j = i := by omega
                    rw [hmi]; simp only [Ms.ok]; omega
                · refine le_drop2 (G := [.cells [.slice id off l.length 9 ex] true, .cells [.int .i64 0, .int .i64 l.length] true]) ?_ ?_
                  · simp; omega
                  · simp; omega
              · repeat (first|(with_reducible first|apply X1|apply X2|apply X3|apply X8|apply X9|apply Y3|apply Y5)|((with_reducible first|apply e_end|apply d_end);(simp;exact Red.rfl))|((first|((with_reducible apply O1);rfl)|((with_reducible apply P1);rfl));(simp (disch:=omega) [hfi];exact Red.rfl);exact Red.rfl;(focus (first|(simp;done)|omega|(simp;omega))))|((with_reducible apply Z9);(simp (disch:=omega) [hfi];exact Red.rfl)))
                refine q_drop (.inr rfl) (by simp; exact Red.rfl) (by simp) ⟨rfl, false, rfl, by constructor <;> intro h; cases h; have := hall h; omega⟩
          · obtain rfl : v = .bool false := by rw [hv2, AV.bool.injEq]; simp; omega
            repeat (first|(with_reducible first|apply X1|apply X2|apply X3|apply X8|apply X9|apply Y3|apply Y5)|((with_reducible apply e_end);(simp;exact Red.rfl))|((with_reducible apply O1);rfl;(simp (disch:=omega);exact Red.rfl);exact Red.rfl;(focus (first|(simp;done)|omega|(simp;omega))))|((with_reducible first|apply Z7|apply Z9);(simp (disch:=omega);exact Red.rfl))|((with_reducible apply Z2);(simp (disch:=omega);exact Red.rfl)))
            refine q_drop (.inr rfl) (by simp; exact Red.rfl) (by simp) ⟨rfl, false, rfl, by constructor <;> intro h; cases h; have := hall h; omega⟩
        · repeat (first|(with_reducible first|apply X1|apply X2|apply X3|apply X8|apply X9|apply Y3|apply Y5)|((with_reducible apply e_end);(simp;exact Red.rfl))|((with_reducible apply O1);rfl;(simp (disch:=omega) [hk];exact Red.rfl);exact Red.rfl;(focus (first|(simp;done)|omega|(simp;omega))))|((with_reducible apply Z9);(simp (disch:=omega) [hk];exact Red.rfl))|((with_reducible apply Z2);(simp (disch:=omega) [hk];exact Red.rfl)))
          refine q_drop (.inr rfl) (by simp; exact Red.rfl) (by simp) ⟨rfl, false, rfl, by constructor <;> intro h; cases h; have := hall h; omega⟩
      · have hlt2 : ¬ (i : Int) < ms.length := by omega
        repeat (first|(with_reducible first|apply X1|apply X2|apply X3|apply X4|apply X8|apply Y1|apply Y4|apply Y6)|((with_reducible apply e_end);(simp;exact Red.rfl))|((with_reducible apply O1);rfl;(simp (disch:=omega) [hlt2];exact Red.rfl);exact Red.rfl;(focus (first|(simp;done)|omega|(simp;omega))))|((with_reducible apply W3);(simp (disch:=omega) [hlt2];exact Red.rfl)))
        refine q_drop (.inr rfl) (by simp; exact Red.rfl) (by simp) ⟨rfl, true, rfl, by simp only [true_iff]; exact ⟨hml, fun j hj => hok j hj (by omega)⟩⟩
theorem c_clone (H : Heap) (l : List Str) (id off : Nat) (ex : Bool) (hs : rd H id off (l.length * 9) = some (l.flatMap Str.av)) (hn : l.length ≤ 1000000) (h1 : 1 ≤ l.length) :
    ACalls Tryz.prog F.slices_Clone_api_Stretch_api_Stretch [.slice id off l.length 9 ex] H (fun v h' => v = .slice H.length 0 l.length 9 false ∧ h' = H ++ [.cells (avR (fun j => (strAt l j).av) l.length) true]) := by
  refine acalls_of ok_slices_Clone_api_Stretch_api_Stretch rfl fun hcl => ?_
  unfold ac_slices_Clone_api_Stretch_api_Stretch
  simp only [argsT, Nat.zero_add, Nat.reduceAdd]
  have hid := rd_lt hs
  have e1 : l.flatMap Str.av = avR (fun j => (strAt l j).av) l.length := flat_eq l
  have pl := (plain_str l).plain l.length
  rw [e1] at hs
  have hle : l.length * 72 ≤ 140737488355328 := by omega
  have hne : ¬ l.length = 0 := by omega
  repeat (first|(with_reducible first|apply X1|apply X2|apply X3|apply X5|apply X8)|((with_reducible apply e_end);(simp;exact Red.rfl))|((with_reducible apply O1);rfl;(simp (disch:=omega) [rd_old _ hid, hs, pl.scal, hle, hne, AOp.fx, eqvA];exact Red.rfl);exact Red.rfl;(focus (first|(simp;done)|omega|(simp;omega))))|((with_reducible apply W3);(simp (disch:=omega) [rd_old _ hid, hs, pl.scal, hle, hne, AOp.fx, eqvA];exact Red.rfl)))
  exact q_post (v' := .slice H.length 0 l.length 9 false) (.inr rfl) (by simp; exact Red.rfl) (le_plain [1] _ (by simp) rfl (by simp; exact pl.o _) (by simp [sh, AV.ren, renL])) ⟨rfl, rfl⟩

def apS (k : Kind) (l : List Str) (t f : Nat) : Mat := fun i j =>
  if i < j ∧ (j < t ∨ (j = t ∧ i < f)) then sumF (kHi k l) i (j - i) else if j < i ∧ (i < t ∨ (i = t ∧ j < f)) then -(sumF (kLo k l) j (i - j)) else 0
def apM (k : Kind) (l : List Str) : Mat := apS k l (l.length + 1) 0
theorem apS_zero (k : Kind) (l : List Str) : apS k l 0 0 = fun _ _ => 0 := by
  funext i j; simp only [apS]; rw [if_neg (by omega), if_neg (by omega)]
theorem apS_row (k : Kind) (l : List Str) (t : Nat) : apS k l t t = apS k l (t + 1) 0 := by
  funext i j; simp only [apS]
  by_cases h : i < j ∧ (j < t ∨ (j = t ∧ i < t))
  · rw [if_pos h, if_pos (by omega)]
  · rw [if_neg h, if_neg (by omega : ¬ (i < j ∧ (j < t + 1 ∨ (j = t + 1 ∧ i < 0))))]
    by_cases h2 : j < i ∧ (i < t ∨ (i = t ∧ j < t))
    · rw [if_pos h2, if_pos (by omega)]
    · rw [if_neg h2, if_neg (by omega)]
theorem apS_step (k : Kind) (l : List Str) {t f : Nat} (h : f < t) : updM (updM (apS k l t f) f t (sumF (kHi k l) f (t - f))) t f (-(sumF (kLo k l) f (t - f))) = apS k l t (f + 1) := by
  funext i j; simp only [apS, updM]
  by_cases h1 : i = t ∧ j = f
  · obtain ⟨rfl, rfl⟩ := h1
    rw [if_pos ⟨rfl, rfl⟩, if_neg (by omega), if_pos (by omega)]
  · rw [if_neg h1]
    by_cases h2 : i = f ∧ j = t
    · obtain ⟨rfl, rfl⟩ := h2
      rw [if_pos ⟨rfl, rfl⟩, if_pos (by omega)]
    · rw [if_neg h2]
      by_cases h3 : i < j ∧ (j < t ∨ (j = t ∧ i < f))
      · rw [if_pos h3, if_pos (by omega)]
      · rw [if_neg h3, if_neg (by omega : ¬ (i < j ∧ (j < t ∨ (j = t ∧ i < f + 1))))]
        by_cases h4 : j < i ∧ (i < t ∨ (i = t ∧ j < f))
        · rw [if_pos h4, if_pos (by omega)]
        · rw [if_neg h4, if_neg (by omega)]
theorem gO_wr0 (M : Mat) {a b : Nat} (x : Int) (G : Heap) (ha : a < 13) (hb : b < 13) : wr (gO M :: G) 0 (a * 13 + b) [.int .i64 x] = some (gO (updM M a b x) :: G) := by
  rw [gO_wr x (H := gO M :: G) (id := 0) rfl ha hb]; rfl
theorem gO_rd0 (M : Mat) {a b : Nat} (G : Heap) (ha : a < 13) (hb : b < 13) : rd (gO M :: G) 0 (a * 13 + b) 1 = some [.int .i64 (M a b)] := gO_rd (H := gO M :: G) (id := 0) rfl ha hb
set_option maxRecDepth 100000 in
theorem gO_zero : gO (fun _ _ => 0) = .cells [.int .i64 0, .int .i64 0, .int .i64 0, .int .i64 0, .int .i64 0, .int .i64 0, .int .i64 0, .int .i64 0, .int .i64 0, .int .i64 0, .int .i64 0, .int .i64 0, .int .i64 0, .int .i64 0, .int .i64 0, .int .i64 0, .int .i64 0, .int .i64 0, .int .i64 0, .int .i64 0, .int .i64 0, .int .i64 0, .int .i64 0, .int .i64 0, .int .i64 0, .int .i64 0, .int .i64 0, .int .i64 0, .int .i64 0, .int .i64 0, .int .i64 0, .int .i64 0, .int .i64 0, .int .i64 0, .int .i64 0, .int .i64 0, .int .i64 0, .int .i64 0, .int .i64 0, .int .i64 0, .int .i64 0, .int .i64 0, .int .i64 0, .int .i64 0, .int .i64 0, .int .i64 0, .int .i64 0, .int .i64 0, .int .i64 0, .int .i64 0, .int .i64 0, .int .i64 0, .int .i64 0, .int .i64 0, .int .i64 0, .int .i64 0, .int .i64 0, .int .i64 0, .int .i64 0, .int .i64 0, .int .i64 0, .int .i64 0, .int .i64 0, .int .i64 0, .int .i64 0, .int .i64 0, .int .i64 0, .int .i64 0, .int .i64 0, .int .i64 0, .int .i64 0, .int .i64 0, .int .i64 0, .int .i64 0, .int .i64 0, .int .i64 0, .int .i64 0, .int .i64 0, .int .i64 0, .int .i64 0, .int .i64 0, .int .i64 0, .int .i64 0, .int .i64 0, .int .i64 0, .int .i64 0, .int .i64 0, .int .i64 0, .int .i64 0, .int .i64 0, .int .i64 0, .int .i64 0, .int .i64 0, .int .i64 0, .int .i64 0, .int .i64 0, .int .i64 0, .int .i64 0, .int .i64 0, .int .i64 0, .int .i64 0, .int .i64 0, .int .i64 0, .int .i64 0, .int .i64 0, .int .i64 0, .int .i64 0, .int .i64 0, .int .i64 0, .int .i64 0, .int .i64 0, .int .i64 0, .int .i64 0, .int .i64 0, .int .i64 0, .int .i64 0, .int .i64 0, .int .i64 0, .int .i64 0, .int .i64 0, .int .i64 0, .int .i64 0, .int .i64 0, .int .i64 0, .int .i64 0, .int .i64 0, .int .i64 0, .int .i64 0, .int .i64 0, .int .i64 0, .int .i64 0, .int .i64 0, .int .i64 0, .int .i64 0, .int .i64 0, .int .i64 0, .int .i64 0, .int .i64 0, .int .i64 0, .int .i64 0, .int .i64 0, .int .i64 0, .int .i64 0, .int .i64 0, .int .i64 0, .int .i64 0, .int .i64 0, .int .i64 0, .int .i64 0, .int .i64 0, .int .i64 0, .int .i64 0, .int .i64 0, .int .i64 0, .int .i64 0, .int .i64 0, .int .i64 0, .int .i64 0, .int .i64 0, .int .i64 0, .int .i64 0, .int .i64 0, .int .i64 0, .int .i64 0, .int .i64 0, .int .i64 0, .int .i64 0, .int .i64 0, .int .i64 0] true := by rfl
theorem mem3 {α : Type} {p : α → Prop} {a b c : α} (ha : p a) (hb : p b) (hc : p c) : ∀ o ∈ [a, b, c], p o := by
  simp only [List.forall_mem_cons]; exact ⟨ha, hb, hc, fun x hx => by cases hx⟩
theorem gO_sc (M : Mat) (n : Nat) : (gO M).sc n = true := by simp [gO, AObj.sc, ((plain_G M).plain 13).sc]
theorem gO_plain (M : Mat) : PlainO (gO M) := ((plain_G M).plain 13).o true

set_option maxRecDepth 100000 in
theorem c_apart (H : Heap) (l : List Str) (id off : Nat) (ex : Bool) (k : Kind) (hk : k.OK) (hs : rd H id off (l.length * 9) = some (l.flatMap Str.av)) (hv : validL l) :
    ACalls Tryz.prog F.track_course_apart [.agg [.slice id off l.length 9 ex], .agg [.int .u8 k.num, .fn (.func k.g) [] []]] H (fun v h' => v = .ptr H.length 0 ∧ h' = H ++ [gO (apM k l)]) := by
  refine acalls_of ok_track_course_apart rfl fun hcl => ?_
  unfold ac_track_course_apart
  simp only [argsT, Nat.zero_add, Nat.reduceAdd]
  have hid := rd_lt hs
  have h12 := hv.1
  repeat (first|(with_reducible first|apply X1|apply X2|apply X6|apply X8)|((with_reducible apply e_end);(simp;exact Red.rfl))|((with_reducible apply O1);rfl;(simp (disch:=omega);exact Red.rfl);exact Red.rfl;(focus (first|(simp;done)|omega|(simp;omega)))))
  refine e_loop (ι := { t : Nat // t ≤ l.length + 1 })
    (fun t => [(2, .ptr H.length 0), (3, .ptr (H.length + 1) 0), (5, .ptr (H.length + 2) 0), (13, .int .i64 ((l.length : Int) + 1)), (14, .int .i64 t.1)])
    (fun t => H ++ [.cells [.slice id off l.length 9 ex] true, .cells [.int .u8 k.num, .fn (.func k.g) [] []] true, gO (apS k l t.1 0)]) (fun t => l.length + 1 - t.1) ⟨0, by omega⟩ ?_ ?_
  · rw [apS_zero, gO_zero]
    exact .inr <| le_same (by rw [← gO_zero]; exact mem3 (by simp; omega) (by simp) (gO_sc _ _)) (by simp [Red])
  · rintro ⟨t, ht⟩
    dsimp only
    by_cases hlt : t < l.length + 1
    · have hlt2 : (t : Int) < (l.length : Int) + 1 := by omega
      generalize hM : apS k l t 0 = M
      repeat (first|(with_reducible first|apply X1|apply X2|apply X5|apply X6|apply X8)|((with_reducible apply e_end);(simp;exact Red.rfl))|((with_reducible apply O1);rfl;(simp (disch:=omega) [hlt2];exact Red.rfl);exact Red.rfl;(focus (first|(simp;done)|omega|(simp;omega))))|((with_reducible apply Z9);(simp (disch:=omega) [hlt2];exact Red.rfl)))
      refine e_loop (ι := { f : Nat // f ≤ t })
        (fun f => [(2, .ptr H.length 0), (3, .ptr (H.length + 1) 0), (5, .ptr (H.length + 2) 0), (6, .int .i64 t), (13, .int .i64 ((l.length : Int) + 1)), (14, .int .i64 t), (17, .int .i64 t), (18, .int .i64 f.1)])
        (fun f => H ++ [.cells [.slice id off l.length 9 ex] true, .cells [.int .u8 k.num, .fn (.func k.g) [] []] true, gO (apS k l t f.1)]) (fun f => t - f.1) ⟨0, by omega⟩ ?_ ?_
      · rw [hM]
        exact .inr <| le_same (mem3 (by simp; omega) (by simp) (gO_sc _ _)) (by simp [Red])
      · rintro ⟨f, hf⟩
        dsimp only
        by_cases hlf : f < t
        · have hlf2 : (f : Int) < t := by omega
          have bd := kind_bd hk hv (show f + (t - f) ≤ l.length by omega)
          have est := apS_step k l hlf
          generalize hN : apS k l t f = N at *
          repeat (first|(with_reducible first|apply X1|apply X2|apply X5|apply X6|apply X8)|((with_reducible apply e_end);(simp;exact Red.rfl))|((with_reducible apply O1);rfl;(simp (disch:=omega) [hlf2, hlt2];exact Red.rfl);exact Red.rfl;(focus (first|(simp;done)|omega|(simp;omega))))|((with_reducible apply Z9);(simp (disch:=omega) [hlf2, hlt2];exact Red.rfl)))
          (with_reducible apply e_call); (simp; exact Red.rfl); exact c_between _ l id off ex k hk f t (by rw [rd_old _ hid]; exact hs) hv (by omega) (by omega)
          rintro _ _ ⟨rfl, rfl⟩
          have hneg : IntKind.i64.wrap (0 - sumF (kLo k l) f (t - f)) = -sumF (kLo k l) f (t - f) := by rw [wrap64] <;> omega
          repeat (first|(with_reducible first|apply X8|apply Y9)|((with_reducible apply e_end);(simp;exact Red.rfl))|((first|((with_reducible apply O1);rfl)|((with_reducible apply O2);rfl)|((with_reducible apply P1);rfl)|((with_reducible apply P2);rfl));(simp (disch:=omega) [hneg, show f < 13 by omega, show t < 13 by omega, gO_wr0];exact Red.rfl);exact Red.rfl;(focus (first|(simp;done)|omega|(simp;omega)))))
          (with_reducible apply d_do_); rfl; rfl; (simp (disch := omega) [gO_wr0, show f < 13 by omega, show t < 13 by omega]; exact Red.rfl); exact Red.rfl
          · simp
          · simp
          · simp
          · simp [recheck, pr, AOp.sem]
          simp only [St.put]
          repeat (first|(with_reducible first|apply X2|apply X8|apply Y2)|((with_reducible first|apply e_end|apply d_end);(simp;exact Red.rfl))|((first|((with_reducible apply O1);rfl)|((with_reducible apply P1);rfl)|((with_reducible apply P4);rfl));(simp (disch:=omega) [hneg, show f < 13 by omega, show t < 13 by omega, gO_wr0];exact Red.rfl);exact Red.rfl;(focus (first|(simp;done)|omega|(simp;omega)))))
          rw [est]
          refine q_again ⟨f + 1, by omega⟩ (by dsimp only; omega) (.inr ?_)
          exact le_take (G := [_, _, _]) (mem3 (by simp; omega) (by simp) (gO_sc _ _)) (by simp [Red])
        · have hlf2 : ¬ (f : Int) < t := by omega
          obtain rfl : f = t := by omega
          repeat (first|(with_reducible first|apply X1|apply X2|apply X4|apply X8|apply Y1|apply Y2|apply Y4|apply Y6)|((with_reducible apply e_end);(simp;exact Red.rfl))|((with_reducible apply O1);rfl;(simp (disch:=omega) [hlf2];exact Red.rfl);exact Red.rfl;(focus (first|(simp;done)|omega|(simp;omega))))|((with_reducible apply W3);(simp (disch:=omega) [hlf2];exact Red.rfl)))
          refine q_again ⟨f + 1, by omega⟩ (by dsimp only; omega) (.inr ?_)
          rw [apS_row]
          exact le_same (mem3 (by simp; omega) (by simp) (gO_sc _ _)) (by simp [Red])
    · have hlt2 : ¬ (t : Int) < (l.length : Int) + 1 := by omega
      obtain rfl : t = l.length + 1 := by omega
      repeat (first|(with_reducible first|apply X1|apply X2|apply X3|apply X4|apply X8|apply Y1|apply Y4|apply Y6)|((with_reducible apply e_end);(simp;exact Red.rfl))|((with_reducible apply O1);rfl;(simp (disch:=omega) [hlt2];exact Red.rfl);exact Red.rfl;(focus (first|(simp;done)|omega|(simp;omega))))|((with_reducible apply W3);(simp (disch:=omega) [hlt2];exact Red.rfl)))
      exact q_post (v' := .ptr H.length 0) (.inr rfl) (by simp; exact Red.rfl) (le_plain [2] [gO (apM k l)] (by simp) rfl (by simp [gO_plain]) (by simp [sh, AV.ren, renL])) ⟨rfl, rfl⟩
end Go.Proofs
