/- Several texts as one. -/
import Derived.Test.YtjagjbelmonpmaaNB
import Derived.Test.YtjagjbelmonpmaaEX
import Derived.Test.YtjagjbelmonpmaaGH
import Derived.Test.YtjagjbelmonpmaaDD
/- A matrix of rows that stand apart. -/
namespace Go.Proofs
open Go.Abs
attribute [local simp] AOp.den AOpd.ev lk cellsOf rd_new rd_new0 rd_zero rd_succ wr_new wr_new0 wr_zero wr_succ splice fillA binA scal sliceCells List.length_append argsT AV.sc scL AObj.sc resV getAll AR.get AOp.slots opdSlots opdsSlots partSlots eqAt at_new0 at_new set_new0 set_new wrap64
set_option linter.unusedSimpArgs false
set_option linter.unusedVariables false
def rowO (M : Mat) (n i : Nat) : AObj := .cells (avR (r1 (M i)) n) true
def slO (p n m : Nat) (i : Nat) : List AV := [if i < m then .slice (p + 1 + i) 0 n 1 true else .nilslice]
def outO (p n m : Nat) : AObj := .cells (avR (slO p n m) n) true
/-- A matrix, some of whose rows stand. -/
def hM (H : Heap) (M : Mat) (n m : Nat) : Heap := H ++ outO H.length n m :: (List.range m).map (rowO M n)
theorem hM_len (H : Heap) (M : Mat) (n m : Nat) : (hM H M n m).length = H.length + 1 + m := by simp [hM]; omega
theorem slO_row {p n m : Nat} {i : Nat} (hi : i < n) : ((avR (slO p n m) n).drop i).take 1 = slO p n m i := by
  have := flat_row (f := slO p n m) (k := 1) (fun _ => rfl) (List.range n) i (by simpa using hi)
  simpa [avR] using this
theorem slO_len (p n m : Nat) : ∀ k, (avR (slO p n m) k).length = k
  | 0 => rfl
  | k + 1 => by rw [avR_succ, List.length_append, slO_len p n m k]; rfl
theorem hM_at (H : Heap) (M : Mat) {n m i : Nat} (hi : i < m) : (hM H M n m)[H.length + 1 + i]? = some (rowO M n i) := by
  rw [hM, Nat.add_assoc, at_new, Nat.add_comm 1 i, List.getElem?_cons_succ, List.getElem?_map, List.getElem?_range hi]; rfl
theorem hM_rdO (H : Heap) (M : Mat) {n m i : Nat} (hi : i < m) (hm : m ≤ n) : rd (hM H M n m) H.length i 1 = some [.slice (H.length + 1 + i) 0 n 1 true] := by
  unfold rd
  rw [show (hM H M n m)[H.length]? = some (outO H.length n m) by rw [hM, at_new0]; rfl]
  simp only [outO]
  rw [if_pos (by rw [slO_len]; omega), slO_row (by omega), slO, if_pos hi]
theorem hM_rd (H : Heap) (M : Mat) {n m i j : Nat} (hi : i < m) (hj : j < n) : rd (hM H M n m) (H.length + 1 + i) j 1 = some [.int .i64 (M i j)] := by
  have := (plain_r1 (M i)).rd (hM_at H M (n := n) hi) hj
  simpa only [Nat.mul_one, r1] using this
theorem hM_wr (H : Heap) (M : Mat) {n m i j : Nat} (x : Int) (hi : i < m) (hj : j < n) : wr (hM H M n m) (H.length + 1 + i) j [.int .i64 x] = some (hM H (updM M i j x) n m) := by
  unfold wr
  rw [hM_at H M hi]
  simp only [rowO]
  have hput := r1_put' (f := M i) (f' := updM M i j x i) (n := n) (i := j) hj (fun b _ hb => by simp [updM, hb])
  rw [show updM M i j x i j = x by simp [updM]] at hput
  rw [if_pos (by rw [(plain_r1 (M i)).length]; simp; omega), hput]
  congr 1
  simp only [hM, Nat.add_assoc, set_new, Nat.add_comm 1 i, List.set_cons_succ]
  congr 2
  apply List.ext_getElem?
  intro a
  rw [List.getElem?_set]
  by_cases ha : i = a
  · subst ha
    rw [if_pos rfl, if_pos (by simpa using hi), List.getElem?_map, List.getElem?_range hi]; rfl
  · rw [if_neg ha, List.getElem?_map, List.getElem?_map]
    by_cases ham : a < m
    · rw [List.getElem?_range ham]
      have e : updM M i j x a = M a := by funext b; simp [updM, Ne.symm ha]
      simp only [Option.map_some, rowO, e]
    · rw [List.getElem?_eq_none (by simpa using ham)]; rfl
theorem hM_old (H : Heap) (M : Mat) (n m : Nat) {id : Nat} (h : id < H.length) (off c : Nat) : rd (hM H M n m) id off c = rd H id off c := rd_old _ h off c
theorem hM_congr (H : Heap) {M M' : Mat} {n m : Nat} (h : ∀ a b, a < m → b < n → M a b = M' a b) : hM H M n m = hM H M' n m := by
  simp only [hM]
  congr 2
  apply List.map_congr_left
  intro a ha
  have ha := List.mem_range.1 ha
  simp only [rowO]
  congr 1
  exact avR_congr fun b hb => by simp only [r1, h a b ha hb]
def zrow (M : Mat) (i : Nat) : Mat := fun a b => if a = i then 0 else M a b
theorem rep_row (n : Nat) : List.replicate n (AV.int .i64 0) = avR (r1 fun _ => 0) n := by
  induction n with
  | zero => rfl
  | succ n ih => rw [List.replicate_succ', ih, avR_succ]; rfl
theorem rep_nil (n : Nat) : List.replicate n AV.nilslice = avR (slO 0 n 0) n := by
  have : ∀ m k, List.replicate k AV.nilslice = avR (slO 0 m 0) k := by
    intro m k
    induction k with
    | zero => rfl
    | succ k ih => rw [List.replicate_succ', ih, avR_succ]; rfl
  exact this n n
theorem hM_zero (H : Heap) (M : Mat) (n : Nat) : hM H M n 0 = H ++ [.cells (List.replicate n AV.nilslice) true] := by
  simp only [hM, List.range_zero, List.map_nil, outO, rep_nil]
  congr 3
theorem slO_put {p n i : Nat} (hi : i < n) : splice (avR (slO p n i) n) i [.slice (p + 1 + i) 0 n 1 true] = avR (slO p n (i + 1)) n := by
  have e1 := avR_split' (slO p n i) hi
  have e2 := avR_split' (slO p n (i + 1)) hi
  have l1 := slO_len p n i i
  have c1 : avR (slO p n (i + 1)) i = avR (slO p n i) i := avR_congr fun j hj => by simp only [slO]; rw [if_pos (by omega), if_pos hj]
  have c2 : avR (fun j => slO p n (i + 1) (i + 1 + j)) (n - i - 1) = avR (fun j => slO p n i (i + 1 + j)) (n - i - 1) := avR_congr fun j hj => by simp only [slO]; rw [if_neg (by omega), if_neg (by omega)]
  have c3 : slO p n (i + 1) i = [.slice (p + 1 + i) 0 n 1 true] := by simp only [slO]; rw [if_pos (by omega)]
  have c4 : slO p n i i = [.nilslice] := by simp [slO]
  rw [e1, e2, c1, c2, c3, c4]
  simp only [splice, List.length_cons, List.length_nil]
  rw [List.take_append_of_le_length (by omega), List.take_of_length_le (by omega), List.drop_append, List.drop_eq_nil_of_le (by omega), l1, List.nil_append, show i + 1 - i = 1 by omega]
  simp
theorem hM_mk (H : Heap) (M : Mat) {n i : Nat} (hi : i < n) : wr (hM H M n i ++ [.cells (avR (r1 fun _ => 0) n) true]) H.length i [.slice (H.length + 1 + i) 0 n 1 true] = some (hM H (zrow M i) n (i + 1)) := by
  have e : hM H M n i ++ [.cells (avR (r1 fun _ => 0) n) true] = H ++ (outO H.length n i :: ((List.range i).map (rowO M n) ++ [.cells (avR (r1 fun _ => 0) n) true])) := by simp [hM]
  rw [e]
  unfold wr
  rw [at_new0]
  simp only [List.getElem?_cons_zero, outO]
  rw [if_pos (by rw [slO_len]; simp; omega), slO_put hi, set_new0]
  simp only [hM, outO, List.set_cons_zero, List.range_succ, List.map_append, List.map_cons, List.map_nil]
  congr 4
  · apply List.map_congr_left
    intro a ha
    have ha := List.mem_range.1 ha
    have e : zrow M i a = M a := by funext b; simp only [zrow]; rw [if_neg (by omega)]
    simp only [rowO, e]
  · have e : zrow M i i = fun _ => 0 := by funext b; simp [zrow]
    simp only [rowO, e]
end Go.Proofs
/- How the gaps that stretches alone allow are summed up. -/
namespace Go.Proofs
open Go.Abs
attribute [local simp] AOp.den AOpd.ev lk cellsOf rd_new rd_new0 rd_zero rd_succ wr_new wr_new0 wr_zero wr_succ splice fillA binA scal sliceCells List.length_append argsT AV.sc scL AObj.sc resV getAll AR.get AOp.slots opdSlots opdsSlots partSlots eqAt at_new0 at_new set_new0 set_new wrap64
set_option linter.unusedSimpArgs false
set_option linter.unusedVariables false
def apF (hi lo : Nat → Int) : Mat := fun i k => if i < k then sumF hi i (k - i) else if k < i then -sumF lo k (i - k) else 0
def upF (hi lo : Nat → Int) (i k x : Nat) : Mat := fun a b => if a = i then (if b < i then 0 else if b < k then sumF hi i (b - i) else if b = k then sumF hi i (x - i) else 0) else apF hi lo a b
def dnF (hi lo : Nat → Int) (i k x : Nat) : Mat := fun a b => if a = i then (if b < k then -sumF lo b (i - b) else if b = k then -sumF lo k (x - k) else if b < i then 0 else sumF hi i (b - i)) else apF hi lo a b
section
variable (hi lo : Nat → Int)
theorem up_start (i : Nat) : upF hi lo i i i = zrow (apF hi lo) i := by
  funext a b
  simp only [upF, zrow]
  by_cases ha : a = i
  · simp only [if_pos ha, Nat.sub_self, sumF]
    repeat' split
    all_goals first | rfl | omega
  · simp only [if_neg ha]
theorem up_step {i k x : Nat} (hik : i ≤ k) (hx : i ≤ x) : updM (upF hi lo i k x) i k (upF hi lo i k x i k + hi x) = upF hi lo i k (x + 1) := by
  funext a b
  simp only [updM, upF, if_true]
  by_cases ha : a = i
  · simp only [ha, true_and, if_true]
    by_cases hb : b = k
    · subst hb
      simp only [if_true]
      rw [if_neg (by omega), if_neg (by omega), if_neg (by omega), if_neg (by omega), show x + 1 - i = (x - i) + 1 by omega, sumF, show i + (x - i) = x by omega]
    · simp only [if_neg hb]
  · simp only [ha, false_and, if_false]
theorem up_next {i k : Nat} (hik : i ≤ k) : upF hi lo i k k = upF hi lo i (k + 1) i := by
  funext a b
  simp only [upF]
  by_cases ha : a = i
  · simp only [ha, if_true]
    by_cases hb : b < i
    · simp only [if_pos hb]
    · simp only [if_neg hb]
      by_cases hbk : b < k
      · rw [if_pos hbk, if_pos (by omega)]
      · rw [if_neg hbk]
        by_cases hbe : b = k
        · rw [if_pos hbe, if_pos (by omega), hbe]
        · rw [if_neg hbe, if_neg (by omega)]
          simp [sumF]
  · simp only [ha, if_false]
theorem up_val {i k x : Nat} (hik : i ≤ k) : upF hi lo i k x i k = sumF hi i (x - i) := by
  simp only [upF, if_true]; rw [if_neg (by omega), if_neg (by omega)]
theorem dn_start {i n : Nat} (hin : i < n) : ∀ a b, a < i + 1 → b < n → upF hi lo i n i a b = dnF hi lo i 0 0 a b := by
  intro a b _ hb
  simp only [upF, dnF]
  by_cases ha : a = i
  · simp only [ha, if_true, hb, Nat.not_lt_zero, if_false]
    by_cases h0 : b = 0
    · subst h0
      by_cases h1 : 0 < i
      · simp [h1, sumF]
      · obtain rfl : i = 0 := by omega
        simp [sumF]
    · simp only [if_neg h0]
  · simp only [ha, if_false]
theorem dn_step {i k x : Nat} (hk : k < i) (hx : k ≤ x) : updM (dnF hi lo i k x) i k (dnF hi lo i k x i k - lo x) = dnF hi lo i k (x + 1) := by
  funext a b
  simp only [updM, dnF, if_true]
  by_cases ha : a = i
  · simp only [ha, true_and, if_true]
    by_cases hb : b = k
    · subst hb
      simp only [if_true]
      rw [if_neg (by omega), if_neg (by omega), show x + 1 - b = (x - b) + 1 by omega, sumF, show b + (x - b) = x by omega]
      omega
    · simp only [if_neg hb]
  · simp only [ha, false_and, if_false]
theorem dn_next {i k : Nat} (hk : k < i) : dnF hi lo i k i = dnF hi lo i (k + 1) (k + 1) := by
  funext a b
  have hz : k + 1 - i = 0 := by omega
  simp only [dnF]
  by_cases ha : a = i
  · simp only [ha, if_true]
    repeat' split
    all_goals first | rfl | omega | (subst_vars; simp [sumF]; done) | (simp_all [sumF]; done) | (simp_all [sumF]; omega)
  · simp only [ha, if_false]
theorem dn_val {i k x : Nat} : dnF hi lo i k x i k = -sumF lo k (x - k) := by
  simp only [dnF, if_true]; rw [if_neg (by omega)]
theorem dn_end (i : Nat) : dnF hi lo i i i = apF hi lo := by
  funext a b
  simp only [dnF]
  by_cases ha : a = i
  · subst ha
    simp only [if_true, apF]
    repeat' split
    all_goals first | rfl | omega | (subst_vars; simp [sumF]; done) | (simp_all [sumF]; done) | (simp_all [sumF]; omega)
  · simp only [ha, if_false]
end
theorem apF_apM (k : Kind) (l : List Str) {i j : Nat} (hi : i ≤ l.length) (hj : j ≤ l.length) : apF (kHi k l) (kLo k l) i j = apM k l i j := by
  simp only [apF, apM, apS]
  repeat' split
  all_goals first | rfl | omega
end Go.Proofs
/- What measures of a kind leave, by the reference. -/
namespace Go.Proofs
open Go.Abs
attribute [local simp] AOp.den AOpd.ev lk cellsOf rd_new rd_new0 rd_zero rd_succ wr_new wr_new0 wr_zero wr_succ splice fillA binA scal sliceCells List.length_append argsT AV.sc scL AObj.sc resV getAll AR.get AOp.slots opdSlots opdsSlots partSlots eqAt at_new0 at_new set_new0 set_new wrap64
set_option linter.unusedSimpArgs false
set_option linter.unusedVariables false
set_option maxHeartbeats 8000000 in
theorem c_hull (H : Heap) (l : List Str) (k : Kind) (hk : k.OK) (hv : validL l) (sid : Nat) (sex : Bool) (ms : List Ms) (mv : AV) (hs : rd H sid 0 (l.length * 2) = some (avR (r2 (kLo k l) (kHi k l)) l.length)) (hm : SlM H mv ms) (hok : okMs l.length ms) :
    ACalls Try.prog F.ref01_hull [.slice sid 0 l.length 2 sex, mv, .int .u8 k.num] H (fun v h' =>
      (goodK k l ms ∧ v = .tuple [.slice H.length 0 l.length 2 false, .bool true] ∧ h' = H ++ [.cells (avR (r2 (fun j => -closeK k l ms (j + 1) j) (fun j => closeK k l ms j (j + 1))) l.length) true]) ∨
      (¬ goodK k l ms ∧ v = .tuple [.nilslice, .bool false] ∧ h' = H)) := by
  refine acalls_of ok_ref01_hull rfl fun hcl => ?_
  unfold ac_ref01_hull
  simp only [argsT, Nat.zero_add, Nat.reduceAdd]
  have hid := rd_lt hs
  have h12 := hv.1
  have hm12 := hok.1
  have hsc := fun n h => hm.sc (n := n) h
  have hz1 : ((l.length : Int) + 1).toNat = l.length + 1 := by omega
  have hz2 : 24 * ((l.length : Int) + 1) ≤ 281474976710656 := by omega
  have hz3 : (l.length : Int) + 1 ≤ 9223372036854775807 := by omega
  have hz4 : 8 * ((l.length : Int) + 1) ≤ 281474976710656 := by omega
  repeat (first|(with_reducible first|apply X1|apply X2|apply X6|apply X8)|((with_reducible apply e_end);(simp;exact Red.rfl))|((with_reducible apply O1);rfl;(simp (disch:=omega) [hz1, hz2, hz3];exact Red.rfl);exact Red.rfl;(focus (first|(simp;done)|omega|(simp;omega)))))
  rw [← hM_zero H (apF (kHi k l) (kLo k l))]
  refine e_loop (ι := { i : Nat // i ≤ l.length + 1 })
    (fun i => [(0, .slice sid 0 l.length 2 sex), (1, mv), (2, .int .u8 k.num), (8, .int .i64 ((l.length : Int) + 1)), (9, .slice H.length 0 (l.length + 1) 1 true), (10, .int .i64 i.1)])
    (fun i => hM H (apF (kHi k l) (kLo k l)) (l.length + 1) i.1) (fun i => l.length + 1 - i.1) ⟨0, by omega⟩ ?_ ?_
  · exact .inl rfl
  · rintro ⟨i, hi⟩
    dsimp only
    by_cases hlt : i < l.length + 1
    · have hlt2 : (i : Int) < (l.length : Int) + 1 := by omega
      have hL := hM_len H (apF (kHi k l) (kLo k l)) (l.length + 1) i
      have hmk := hM_mk H (apF (kHi k l) (kLo k l)) hlt
      rw [← rep_row] at hmk
      repeat (first|(with_reducible first|apply X1|apply X2|apply X5|apply X6|apply X8)|((with_reducible apply e_end);(simp;exact Red.rfl))|((first|((with_reducible apply O1);rfl)|((with_reducible apply O2);rfl));(simp (disch:=omega) [hlt, hlt2, hz1, hz3, hz4, hL, hmk];exact Red.rfl);exact Red.rfl;(focus (first|(simp;done)|omega|(simp;omega))))|((with_reducible apply Z9);(simp (disch:=omega) [hlt, hlt2, hz1, hz3, hz4, hL, hmk];exact Red.rfl)))
      rw [← up_start]
      have ro := fun M => hM_rdO H M (n := l.length + 1) (m := i + 1) (i := i) (by omega) (by omega)
      have pr := fun (c x : Nat) (hc : c + 1 ≤ 2) (hx : x < l.length) => (plain_r2 (kLo k l) (kHi k l)).part (n := l.length) (i := x) (c := c) (m := 1) hx hc
      have pq : ∀ x, x < l.length → rd H sid (x * 2 + 1) 1 = some [.int .i64 (kHi k l x)] ∧ rd H sid (x * 2) 1 = some [.int .i64 (kLo k l x)] := fun x hx => by
        have h1 := rd_sub hs (j := x * 2 + 1) (m := 1) (by omega)
        have h2 := rd_sub hs (j := x * 2 + 0) (m := 1) (by omega)
        rw [pr 1 x (by omega) hx, Nat.zero_add] at h1
        rw [pr 0 x (by omega) hx, Nat.zero_add] at h2
        exact ⟨h1, h2⟩
      refine e_loop (ι := { q : Nat // i ≤ q ∧ q ≤ l.length + 1 })
        (fun q => [(0, .slice sid 0 l.length 2 sex), (1, mv), (2, .int .u8 k.num), (8, .int .i64 ((l.length : Int) + 1)), (9, .slice H.length 0 (l.length + 1) 1 true), (10, .int .i64 i), (11, .int .i64 q.1)])
        (fun q => hM H (upF (kHi k l) (kLo k l) i q.1 i) (l.length + 1) (i + 1)) (fun q => l.length + 1 - q.1) ⟨i, by omega⟩ ?_ ?_
      · exact .inl rfl
      · rintro ⟨q, hiq, hq⟩
        dsimp only
        by_cases hql : q < l.length + 1
        · have hql2 : (q : Int) < (l.length : Int) + 1 := by omega
          repeat (first|(with_reducible first|apply X1|apply X2|apply X5|apply X6|apply X8)|((with_reducible apply e_end);(simp;exact Red.rfl))|((with_reducible apply O1);rfl;(simp (disch:=omega) [hql, hql2];exact Red.rfl);exact Red.rfl;(focus (first|(simp;done)|omega|(simp;omega))))|((with_reducible apply Z9);(simp (disch:=omega) [hql, hql2];exact Red.rfl)))
          refine e_loop (ι := { x : Nat // i ≤ x ∧ x ≤ q })
            (fun x => [(0, .slice sid 0 l.length 2 sex), (1, mv), (2, .int .u8 k.num), (8, .int .i64 ((l.length : Int) + 1)), (9, .slice H.length 0 (l.length + 1) 1 true), (10, .int .i64 i), (11, .int .i64 q), (12, .int .i64 x.1)])
            (fun x => hM H (upF (kHi k l) (kLo k l) i q x.1) (l.length + 1) (i + 1)) (fun x => q - x.1) ⟨i, by omega⟩ ?_ ?_
          · exact .inl rfl
          · rintro ⟨x, hix, hx⟩
            dsimp only
            by_cases hxq : x < q
            · have hxq2 : (x : Int) < q := by omega
              have rr := hM_rd H (upF (kHi k l) (kLo k l) i q x) (n := l.length + 1) (m := i + 1) (i := i) (j := q) (by omega) hql
              have ww := hM_wr H (upF (kHi k l) (kLo k l) i q x) (n := l.length + 1) (m := i + 1) (i := i) (j := q) (upF (kHi k l) (kLo k l) i q x i q + kHi k l x) (by omega) hql
              rw [up_step _ _ hiq hix] at ww
              rw [up_val _ _ hiq] at rr ww
              have hx2 : (x : Int) < l.length := by omega
              have hx3 : x < l.length := by omega
              have hold := hM_old H (upF (kHi k l) (kLo k l) i q x) (l.length + 1) (i + 1) hid
              have b1 := kind_bd hk hv (show i + (x - i) ≤ l.length by omega)
              have b2 := kind_bd hk hv (show i + (x + 1 - i) ≤ l.length by omega)
              have hs1 : sumF (kHi k l) i (x + 1 - i) = sumF (kHi k l) i (x - i) + kHi k l x := by rw [show x + 1 - i = (x - i) + 1 by omega, sumF, show i + (x - i) = x by omega]
              have q1 := (pq x hx3).1
              have hL1 := hM_len H (upF (kHi k l) (kLo k l) i q x) (l.length + 1) (i + 1)
              have hL2 := hM_len H (upF (kHi k l) (kLo k l) i q (x + 1)) (l.length + 1) (i + 1)
              have hwr : IntKind.i64.wrap (sumF (kHi k l) i (x - i) + kHi k l x) = sumF (kHi k l) i (x - i) + kHi k l x := by rw [wrap64] <;> omega
              repeat (first|(with_reducible first|apply X1|apply X2|apply X5|apply X6|apply X8|apply Y2|apply Y9)|((with_reducible first|apply e_end|apply d_end);(simp;exact Red.rfl))|((first|((with_reducible apply O1);rfl)|((with_reducible apply P1);rfl)|((with_reducible apply P2);rfl)|((with_reducible apply P4);rfl));(simp (disch:=omega) [hxq, hxq2, hx2, hx3, hlt, hlt2, hql, hql2, ro, rr, ww, hold, q1, hL1, hL2, hwr];exact Red.rfl);exact Red.rfl;(focus (first|(simp;done)|omega|(simp;omega))))|((with_reducible apply Z9);(simp (disch:=omega) [hxq, hxq2, hx2, hx3, hlt, hlt2, hql, hql2, ro, rr, ww, hold, q1, hL1, hL2, hwr];exact Red.rfl)))
              exact q_again ⟨x + 1, by omega⟩ (by dsimp only; omega) (.inl (by simp))
            · obtain rfl : x = q := by omega
              rw [up_next _ _ hiq]
              repeat (first|(with_reducible first|apply X1|apply X2|apply X4|apply X8|apply Y1|apply Y2|apply Y4|apply Y6)|((with_reducible apply e_end);(simp;exact Red.rfl))|((with_reducible apply O1);rfl;(simp (disch:=omega);exact Red.rfl);exact Red.rfl;(focus (first|(simp;done)|omega|(simp;omega))))|((with_reducible apply W3);(simp (disch:=omega);exact Red.rfl)))
              exact q_again ⟨x + 1, by omega⟩ (by dsimp only; omega) (.inl (by simp))
        · obtain rfl : q = l.length + 1 := by omega
          rw [hM_congr H (dn_start (kHi k l) (kLo k l) hlt)]
          repeat (first|(with_reducible first|apply X1|apply X2|apply X4|apply X6|apply X8|apply Y1|apply Y4|apply Y6)|((with_reducible apply e_end);(simp;exact Red.rfl))|((with_reducible apply O1);rfl;(simp (disch:=omega);exact Red.rfl);exact Red.rfl;(focus (first|(simp;done)|omega|(simp;omega))))|((with_reducible apply W3);(simp (disch:=omega);exact Red.rfl)))
          refine e_loop (ι := { q : Nat // q ≤ i })
            (fun q => [(0, .slice sid 0 l.length 2 sex), (1, mv), (2, .int .u8 k.num), (8, .int .i64 ((l.length : Int) + 1)), (9, .slice H.length 0 (l.length + 1) 1 true), (10, .int .i64 i), (13, .int .i64 q.1)])
            (fun q => hM H (dnF (kHi k l) (kLo k l) i q.1 q.1) (l.length + 1) (i + 1)) (fun q => i - q.1) ⟨0, by omega⟩ ?_ ?_
          · exact .inl rfl
          · rintro ⟨q, hqi⟩
            dsimp only
            by_cases hql : q < i
            · have hql2 : (q : Int) < i := by omega
              repeat (first|(with_reducible first|apply X1|apply X2|apply X5|apply X6|apply X8)|((with_reducible apply e_end);(simp;exact Red.rfl))|((with_reducible apply O1);rfl;(simp (disch:=omega) [hql, hql2];exact Red.rfl);exact Red.rfl;(focus (first|(simp;done)|omega|(simp;omega))))|((with_reducible apply Z9);(simp (disch:=omega) [hql, hql2];exact Red.rfl)))
              refine e_loop (ι := { x : Nat // q ≤ x ∧ x ≤ i })
                (fun x => [(0, .slice sid 0 l.length 2 sex), (1, mv), (2, .int .u8 k.num), (8, .int .i64 ((l.length : Int) + 1)), (9, .slice H.length 0 (l.length + 1) 1 true), (10, .int .i64 i), (13, .int .i64 q), (14, .int .i64 x.1)])
                (fun x => hM H (dnF (kHi k l) (kLo k l) i q x.1) (l.length + 1) (i + 1)) (fun x => i - x.1) ⟨q, by omega⟩ ?_ ?_
              · exact .inl rfl
              · rintro ⟨x, hqx, hx⟩
                dsimp only
                by_cases hxq : x < i
                · have hxq2 : (x : Int) < i := by omega
                  have rr := hM_rd H (dnF (kHi k l) (kLo k l) i q x) (n := l.length + 1) (m := i + 1) (i := i) (j := q) (by omega) (by omega)
                  have ww := hM_wr H (dnF (kHi k l) (kLo k l) i q x) (n := l.length + 1) (m := i + 1) (i := i) (j := q) (dnF (kHi k l) (kLo k l) i q x i q - kLo k l x) (by omega) (by omega)
                  rw [dn_step _ _ hql hqx] at ww
                  rw [dn_val] at rr ww
                  have hx2 : (x : Int) < l.length := by omega
                  have hx3 : x < l.length := by omega
                  have hq3 : q < l.length + 1 := by omega
                  have hold := hM_old H (dnF (kHi k l) (kLo k l) i q x) (l.length + 1) (i + 1) hid
                  have b1 := kind_bd hk hv (show q + (x - q) ≤ l.length by omega)
                  have b2 := kind_bd hk hv (show q + (x + 1 - q) ≤ l.length by omega)
                  have hs1 : sumF (kLo k l) q (x + 1 - q) = sumF (kLo k l) q (x - q) + kLo k l x := by rw [show x + 1 - q = (x - q) + 1 by omega, sumF, show q + (x - q) = x by omega]
                  have q1 := (pq x hx3).2
                  have hL1 := hM_len H (dnF (kHi k l) (kLo k l) i q x) (l.length + 1) (i + 1)
                  have hL2 := hM_len H (dnF (kHi k l) (kLo k l) i q (x + 1)) (l.length + 1) (i + 1)
                  have hwr : IntKind.i64.wrap (-sumF (kLo k l) q (x - q) - kLo k l x) = -sumF (kLo k l) q (x - q) - kLo k l x := by rw [wrap64] <;> omega
                  repeat (first|(with_reducible first|apply X1|apply X2|apply X5|apply X6|apply X8|apply Y2|apply Y9)|((with_reducible first|apply e_end|apply d_end);(simp;exact Red.rfl))|((first|((with_reducible apply O1);rfl)|((with_reducible apply P1);rfl)|((with_reducible apply P2);rfl)|((with_reducible apply P4);rfl));(simp (disch:=omega) [hxq, hxq2, hx2, hx3, hq3, hlt, hlt2, hql, hql2, ro, rr, ww, hold, q1, hL1, hL2, hwr];exact Red.rfl);exact Red.rfl;(focus (first|(simp;done)|omega|(simp;omega))))|((with_reducible apply Z9);(simp (disch:=omega) [hxq, hxq2, hx2, hx3, hq3, hlt, hlt2, hql, hql2, ro, rr, ww, hold, q1, hL1, hL2, hwr];exact Red.rfl)))
                  exact q_again ⟨x + 1, by omega⟩ (by dsimp only; omega) (.inl (by simp))
                · obtain rfl : x = i := by omega
                  rw [dn_next _ _ hql]
                  repeat (first|(with_reducible first|apply X1|apply X2|apply X4|apply X8|apply Y1|apply Y2|apply Y4|apply Y6)|((with_reducible apply e_end);(simp;exact Red.rfl))|((with_reducible apply O1);rfl;(simp (disch:=omega);exact Red.rfl);exact Red.rfl;(focus (first|(simp;done)|omega|(simp;omega))))|((with_reducible apply W3);(simp (disch:=omega);exact Red.rfl)))
                  exact q_again ⟨q + 1, by omega⟩ (by dsimp only; omega) (.inl (by simp))
            · obtain rfl : q = i := by omega
              rw [dn_end]
              repeat (first|(with_reducible first|apply X1|apply X2|apply X4|apply X8|apply Y1|apply Y2|apply Y4|apply Y6)|((with_reducible apply e_end);(simp;exact Red.rfl))|((with_reducible apply O1);rfl;(simp (disch:=omega);exact Red.rfl);exact Red.rfl;(focus (first|(simp;done)|omega|(simp;omega))))|((with_reducible apply W3);(simp (disch:=omega);exact Red.rfl)))
              exact q_again ⟨q + 1, by omega⟩ (by dsimp only; omega) (.inl (by simp))
    · obtain rfl : i = l.length + 1 := by omega
      clear hlt hi
      rw [hM_congr H (M' := apM k l) (fun a b ha hb => apF_apM k l (show a ≤ l.length by omega) (show b ≤ l.length by omega))]
      repeat (first|(with_reducible first|apply X1|apply X2|apply X4|apply X6|apply X8|apply Y1|apply Y4|apply Y6)|((with_reducible apply e_end);(simp;exact Red.rfl))|((with_reducible apply O1);rfl;(simp (disch:=omega);exact Red.rfl);exact Red.rfl;(focus (first|(simp;done)|omega|(simp;omega))))|((with_reducible apply W3);(simp (disch:=omega);exact Red.rfl)))
      refine e_loop (ι := { i : Nat // i ≤ ms.length })
        (fun i => [(1, mv), (2, .int .u8 k.num), (8, .int .i64 ((l.length : Int) + 1)), (9, .slice H.length 0 (l.length + 1) 1 true), (15, .int .i64 i.1)])
        (fun i => hM H (kindM k l (ms.take i.1)) (l.length + 1) (l.length + 1)) (fun i => ms.length - i.1) ⟨0, by omega⟩ ?_ ?_
      · exact .inl rfl
      · rintro ⟨i, hi⟩
        dsimp only
        repeat (first|(with_reducible first|apply X1|apply X2)|((with_reducible apply O1);rfl;(simp (disch:=omega);exact Red.rfl);exact Red.rfl;(focus (first|(simp;done)|omega|(simp;omega)))))
        (with_reducible apply e_op); rfl; exact den_len (by simp) hm; exact Red.rfl; trivial
        by_cases hlt : i < ms.length
        · have hlt2 : (i : Int) < ms.length := by omega
          obtain ⟨mid, moff, mex, rfl, hm2⟩ : ∃ id off ex, mv = .slice id off ms.length 5 ex ∧ rd H id off (ms.length * 5) = some (ms.flatMap Ms.av) := by
            rcases hm with ⟨_, rfl⟩ | h
            · simp at hlt
            · exact h
          have hmid := rd_lt hm2
          have hx := rd_row Ms.av_length hm2 hlt
          have hoki := hok.2 i hlt
          have est := kindM_take (k := k) (l := l) hlt
          have kok1 := kindM_ok hk hv hok.2 i (by omega)
          generalize hmi : ms[i] = m at hx hoki est
          generalize hM1 : kindM k l (ms.take i) = M at *
          generalize hM2 : kindM k l (ms.take (i + 1)) = M2 at *
          obtain ⟨mk, f, t, lo, hi2⟩ := m
          simp only [Ms.av] at hx
          simp only [Ms.ok] at hoki
          obtain ⟨a, rfl⟩ : ∃ a : Nat, f = a := ⟨f.toNat, by omega⟩
          obtain ⟨b, rfl⟩ : ∃ b : Nat, t = b := ⟨t.toNat, by omega⟩
          simp only [kStep, Int.toNat_natCast] at est
          have x0 := rd_sub hx (j := 0) (m := 1) (by omega)
          have x1 := rd_sub hx (j := 1) (m := 1) (by omega)
          have x2 := rd_sub hx (j := 2) (m := 1) (by omega)
          have x3 := rd_sub hx (j := 3) (m := 1) (by omega)
          have x4 := rd_sub hx (j := 4) (m := 1) (by omega)
          simp only [Nat.add_zero, List.drop_zero, List.take_succ_cons, List.take_zero, List.drop_succ_cons] at x0 x1 x2 x3 x4
          have hold := fun M => hM_old H M (l.length + 1) (l.length + 1) hmid
          have hLen := fun M => hM_len H M (l.length + 1) (l.length + 1)
          by_cases hkk : mk = k.num
          · rw [if_pos hkk] at est
            have ro1 := fun M => hM_rdO H M (n := l.length + 1) (m := l.length + 1) (i := a) (by omega) (by omega)
            have ro2 := fun M => hM_rdO H M (n := l.length + 1) (m := l.length + 1) (i := b) (by omega) (by omega)
            have r1 := hM_rd H M (n := l.length + 1) (m := l.length + 1) (i := a) (j := b) (by omega) (by omega)
            have w1 := hM_wr H M (n := l.length + 1) (m := l.length + 1) (i := a) (j := b) (mn (M a b) hi2) (by omega) (by omega)
            have r2 := hM_rd H (updM M a b (mn (M a b) hi2)) (n := l.length + 1) (m := l.length + 1) (i := b) (j := a) (by omega) (by omega)
            have w2 := hM_wr H (updM M a b (mn (M a b) hi2)) (n := l.length + 1) (m := l.length + 1) (i := b) (j := a) (mn (updM M a b (mn (M a b) hi2) b a) (-lo)) (by omega) (by omega)
            rw [show updM (updM M a b (mn (M a b) hi2)) b a (mn (updM M a b (mn (M a b) hi2) b a) (-lo)) = bnd M a b lo hi2 from rfl, ← est] at w2
            generalize updM M a b (mn (M a b) hi2) = M1 at *
            simp only [mn] at w1 w2
            have hneg : IntKind.i64.wrap (0 - lo) = -lo := by rw [wrap64] <;> omega
            have ha : a < l.length + 1 := by omega
            have hb : b < l.length + 1 := by omega
            have ha2 : (a : Int) < (l.length : Int) + 1 := by omega
            have hb2 : (b : Int) < (l.length : Int) + 1 := by omega
            repeat (first|(with_reducible first|apply X1|apply X2|apply X5|apply X6|apply X8|apply Y9)|((with_reducible apply e_end);(simp;exact Red.rfl))|((first|((with_reducible apply O1);rfl)|((with_reducible apply P1);rfl)|((with_reducible apply P2);rfl));(simp (disch:=omega) [hlt2, hlt, hold, x0, x1, x2, x3, x4, hkk, ro1, ro2, r1, w1, r2, w2, ha, hb, ha2, hb2, hLen, hneg];exact Red.rfl);exact Red.rfl;(focus (first|(simp;done)|omega|(simp;omega))))|((with_reducible apply Z9);(simp (disch:=omega) [hlt2, hlt, hold, x0, x1, x2, x3, x4, hkk, ro1, ro2, r1, w1, r2, w2, ha, hb, ha2, hb2, hLen, hneg];exact Red.rfl)))
            (with_reducible apply d_do_); rfl; rfl; (simp (disch := omega) [hlt2, hlt, hold, x0, x1, x2, x3, x4, hkk, ro1, ro2, r1, w1, r2, w2, ha, hb, ha2, hb2, hLen, hneg]; exact Red.rfl); exact Red.rfl
            · trivial
            · simp [hLen]; omega
            · simp [hLen]
            · simp [recheck, pr, AOp.sem, hlt2, hlt, hold, x0, x1, x2, x3, x4, hkk, ro1, ro2, r1, w1, r2, w2, ha, hb, ha2, hb2, hLen, hneg]
            simp only [St.put]
            repeat (first|(with_reducible first|apply X8|apply Y9)|((with_reducible apply d_end);(simp;exact Red.rfl))|((first|((with_reducible apply P1);rfl)|((with_reducible apply P2);rfl));(simp (disch:=omega) [hlt2, hlt, hold, x0, x1, x2, x3, x4, hkk, ro1, ro2, r1, w1, r2, w2, ha, hb, ha2, hb2, hLen, hneg];exact Red.rfl);exact Red.rfl;(focus (first|(simp;done)|omega|(simp;omega)))))
            (with_reducible apply d_do_); rfl; rfl; (simp (disch := omega) [hlt2, hlt, hold, x0, x1, x2, x3, x4, hkk, ro1, ro2, r1, w1, r2, w2, ha, hb, ha2, hb2, hLen, hneg]; exact Red.rfl); exact Red.rfl
            · trivial
            · simp [hLen]; omega
            · simp [hLen]
            · simp [recheck, pr, AOp.sem, hlt2, hlt, hold, x0, x1, x2, x3, x4, hkk, ro1, ro2, r1, w1, r2, w2, ha, hb, ha2, hb2, hLen, hneg]
            simp only [St.put]
            repeat (first|(with_reducible first|apply X2|apply X8|apply Y2)|((with_reducible first|apply e_end|apply d_end);(simp;exact Red.rfl))|((with_reducible apply O1);rfl;(simp (disch:=omega) [hlt2, hlt, hold, x0, x1, x2, x3, x4, hkk, ro1, ro2, r1, w1, r2, w2, ha, hb, ha2, hb2, hLen, hneg];exact Red.rfl);exact Red.rfl;(focus (first|(simp;done)|omega|(simp;omega)))))
            exact q_again ⟨i + 1, by omega⟩ (by dsimp only; omega) (.inl (by simp [hM2]))
          · rw [if_neg hkk] at est
            repeat (first|(with_reducible first|apply X1|apply X2|apply X5|apply X6|apply X8|apply Y2)|((with_reducible apply e_end);(simp;exact Red.rfl))|((with_reducible apply O1);rfl;(simp (disch:=omega) [hlt2, hlt, hold, x0, hkk, hLen];exact Red.rfl);exact Red.rfl;(focus (first|(simp;done)|omega|(simp;omega))))|((with_reducible apply Z9);(simp (disch:=omega) [hlt2, hlt, hold, x0, hkk, hLen];exact Red.rfl))|((with_reducible apply W3);(simp (disch:=omega) [hlt2, hlt, hold, x0, hkk, hLen];exact Red.rfl)))
            exact q_again ⟨i + 1, by omega⟩ (by dsimp only; omega) (.inl (by simp [hM2, est]))
        · obtain rfl : i = ms.length := by omega
          clear hlt hi
          rw [List.take_of_length_le (Nat.le_refl _)]
          have kok := kindM_ok hk hv hok.2 ms.length (Nat.le_refl _)
          rw [List.take_of_length_le (Nat.le_refl _)] at kok
          have hcl : ∀ j, j ≤ l.length + 1 → (∃ i, i ≤ l.length ∧ closeM (kindM k l ms) l.length j i i < 0) → ¬ goodK k l ms := fun j hj h => not_good ⟨j, hj, h⟩
          have hgk : (∀ i, i ≤ l.length → 0 ≤ closeM (kindM k l ms) l.length (l.length + 1) i i) → goodK k l ms := fun h => h
          have hck : closeK k l ms = closeM (kindM k l ms) l.length (l.length + 1) := rfl
          rw [hck]
          clear hok hz1 hz2 hz4
          generalize kindM k l ms = M at *
          have bd := closeM_bd (M := M) (n := l.length) (L := 1000000) (U := 1000000) (by omega) (by omega) (fun i j hi hj => by have := kok i j hi hj; omega)
          repeat (first|(with_reducible first|apply X1|apply X2|apply X4|apply X6|apply X8|apply Y1|apply Y4|apply Y6)|((with_reducible apply e_end);(simp;exact Red.rfl))|((with_reducible apply O1);rfl;(simp (disch:=omega);exact Red.rfl);exact Red.rfl;(focus (first|(simp;done)|omega|(simp;omega))))|((with_reducible apply W3);(simp (disch:=omega);exact Red.rfl)))
          refine e_loop (ι := { x : Nat // x ≤ l.length + 1 ∧ ∀ i, i ≤ l.length → 0 ≤ closeM M l.length x i i })
            (fun x => [(8, .int .i64 ((l.length : Int) + 1)), (9, .slice H.length 0 (l.length + 1) 1 true), (16, .int .i64 x.1)])
            (fun x => hM H (closeM M l.length x.1) (l.length + 1) (l.length + 1)) (fun x => l.length + 1 - x.1) ⟨0, by omega, fun i hi => by have := (kok i i hi hi).2.2 rfl; simp only [closeM]; omega⟩ ?_ ?_
          · exact .inl rfl
          · rintro ⟨x, hx, hdx⟩
            dsimp only
            have bx := bd x hx
            have hp := pow2_le (show x ≤ 13 by omega)
            by_cases hlx : x < l.length + 1
            · have hlx2 : (x : Int) < (l.length : Int) + 1 := by omega
              have hcx := hdx x (by omega)
              have eN : rndM (closeM M l.length x) l.length x (l.length + 1) 0 = closeM M l.length (x + 1) := rfl
              generalize closeM M l.length x = N at *
              have hL := fun M => hM_len H M (l.length + 1) (l.length + 1)
              have rox := fun M => hM_rdO H M (n := l.length + 1) (m := l.length + 1) (i := x) hlx (by omega)
              repeat (first|(with_reducible first|apply X1|apply X2|apply X5|apply X6|apply X8)|((with_reducible apply e_end);(simp;exact Red.rfl))|((with_reducible apply O1);rfl;(simp (disch:=omega) [hlx2];exact Red.rfl);exact Red.rfl;(focus (first|(simp;done)|omega|(simp;omega))))|((with_reducible apply Z9);(simp (disch:=omega) [hlx2];exact Red.rfl)))
              refine e_loop (ι := { a : Nat // a ≤ l.length + 1 })
                (fun a => [(8, .int .i64 ((l.length : Int) + 1)), (9, .slice H.length 0 (l.length + 1) 1 true), (16, .int .i64 x), (17, .int .i64 a.1)])
                (fun a => hM H (rndM N l.length x a.1 0) (l.length + 1) (l.length + 1)) (fun a => l.length + 1 - a.1) ⟨0, by omega⟩ ?_ ?_
              · rw [rndM_start]; exact .inl rfl
              · rintro ⟨a, ha⟩
                dsimp only
                by_cases hla : a < l.length + 1
                · have hla2 : (a : Int) < (l.length : Int) + 1 := by omega
                  have roa := fun M => hM_rdO H M (n := l.length + 1) (m := l.length + 1) (i := a) hla (by omega)
                  repeat (first|(with_reducible first|apply X1|apply X2|apply X5|apply X6|apply X8)|((with_reducible apply e_end);(simp;exact Red.rfl))|((with_reducible apply O1);rfl;(simp (disch:=omega) [hla2];exact Red.rfl);exact Red.rfl;(focus (first|(simp;done)|omega|(simp;omega))))|((with_reducible apply Z9);(simp (disch:=omega) [hla2];exact Red.rfl)))
                  refine e_loop (ι := { b : Nat // b ≤ l.length + 1 })
                    (fun b => [(8, .int .i64 ((l.length : Int) + 1)), (9, .slice H.length 0 (l.length + 1) 1 true), (16, .int .i64 x), (17, .int .i64 a), (18, .int .i64 b.1)])
                    (fun b => hM H (rndM N l.length x a b.1) (l.length + 1) (l.length + 1)) (fun b => l.length + 1 - b.1) ⟨0, by omega⟩ ?_ ?_
                  · exact .inl rfl
                  · rintro ⟨b, hb⟩
                    dsimp only
                    by_cases hlb : b < l.length + 1
                    · have hlb2 : (b : Int) < (l.length : Int) + 1 := by omega
                      have r1 := hM_rd H (rndM N l.length x a b) (n := l.length + 1) (m := l.length + 1) hla hlb
                      have r2 := hM_rd H (rndM N l.length x a b) (n := l.length + 1) (m := l.length + 1) hla hlx
                      have r3 := hM_rd H (rndM N l.length x a b) (n := l.length + 1) (m := l.length + 1) hlx hlb
                      have w := hM_wr H (rndM N l.length x a b) (n := l.length + 1) (m := l.length + 1) (mn (N a b) (N a x + N x b)) hla hlb
                      rw [rndM_ab] at r1
                      rw [rndM_io N hcx] at r2
                      rw [rndM_oj N hcx] at r3
                      rw [rndM_step N (by omega) (by omega)] at w
                      have b1 := bx a x (by omega) (by omega)
                      have b2 := bx x b (by omega) (by omega)
                      have hwr : IntKind.i64.wrap (N a x + N x b) = N a x + N x b := by rw [wrap64] <;> omega
                      generalize rndM N l.length x a b = B1 at *
                      generalize hB2 : rndM N l.length x a (b + 1) = B2 at *
                      simp only [mn] at w
                      repeat (first|(with_reducible first|apply X1|apply X2|apply X5|apply X6|apply X8|apply Y9)|((with_reducible apply e_end);(simp;exact Red.rfl))|((first|((with_reducible apply O1);rfl)|((with_reducible apply P1);rfl)|((with_reducible apply P2);rfl));(simp (disch:=omega) [hlb2, hlb, hla, hla2, hlx, hlx2, roa, rox, r1, r2, r3, w, hwr, hL];exact Red.rfl);exact Red.rfl;(focus (first|(simp;done)|omega|(simp;omega))))|((with_reducible apply Z9);(simp (disch:=omega) [hlb2, hlb, hla, hla2, hlx, hlx2, roa, rox, r1, r2, r3, w, hwr, hL];exact Red.rfl)))
                      (with_reducible apply d_do_); rfl; rfl; (simp (disch := omega) [hlb2, hlb, hla, hla2, hlx, hlx2, roa, rox, r1, r2, r3, w, hwr, hL]; exact Red.rfl); exact Red.rfl
                      · trivial
                      · simp [hL]; omega
                      · simp [hL]
                      · simp [recheck, pr, AOp.sem, hlb2, hlb, hla, hla2, hlx, hlx2, roa, rox, r1, r2, r3, w, hwr, hL]
                      simp only [St.put]
                      repeat (first|(with_reducible first|apply X2|apply X8|apply Y2)|((with_reducible first|apply e_end|apply d_end);(simp;exact Red.rfl))|((with_reducible apply O1);rfl;(simp (disch:=omega);exact Red.rfl);exact Red.rfl;(focus (first|(simp;done)|omega|(simp;omega)))))
                      exact q_again ⟨b + 1, by omega⟩ (by dsimp only; omega) (.inl (by simp [hB2]))
                    · obtain rfl : b = l.length + 1 := by omega
                      rw [rndM_row]
                      repeat (first|(with_reducible first|apply X1|apply X2|apply X4|apply X8|apply Y1|apply Y2|apply Y4|apply Y6)|((with_reducible apply e_end);(simp;exact Red.rfl))|((with_reducible apply O1);rfl;(simp (disch:=omega);exact Red.rfl);exact Red.rfl;(focus (first|(simp;done)|omega|(simp;omega))))|((with_reducible apply W3);(simp (disch:=omega);exact Red.rfl)))
                      exact q_again ⟨a + 1, by omega⟩ (by dsimp only; omega) (.inl (by simp))
                · obtain rfl : a = l.length + 1 := by omega
                  rw [eN]
                  have bx1 := bd (x + 1) (by omega)
                  repeat (first|(with_reducible first|apply X1|apply X2|apply X4|apply X6|apply X8|apply Y1|apply Y4|apply Y6)|((with_reducible apply e_end);(simp;exact Red.rfl))|((with_reducible apply O1);rfl;(simp (disch:=omega);exact Red.rfl);exact Red.rfl;(focus (first|(simp;done)|omega|(simp;omega))))|((with_reducible apply W3);(simp (disch:=omega);exact Red.rfl)))
                  refine e_loop (ι := { i : Nat // i ≤ l.length + 1 ∧ ∀ j, j < i → 0 ≤ closeM M l.length (x + 1) j j })
                    (fun i => [(8, .int .i64 ((l.length : Int) + 1)), (9, .slice H.length 0 (l.length + 1) 1 true), (16, .int .i64 x), (19, .int .i64 i.1)])
                    (fun _ => hM H (closeM M l.length (x + 1)) (l.length + 1) (l.length + 1)) (fun i => l.length + 1 - i.1) ⟨0, by omega, fun j hj => absurd hj (by omega)⟩ ?_ ?_
                  · exact .inl rfl
                  · rintro ⟨i, hi, hdi⟩
                    dsimp only
                    by_cases hli : i < l.length + 1
                    · have hli2 : (i : Int) < (l.length : Int) + 1 := by omega
                      have roi := hM_rdO H (closeM M l.length (x + 1)) (n := l.length + 1) (m := l.length + 1) (i := i) hli (by omega)
                      have r1 := hM_rd H (closeM M l.length (x + 1)) (n := l.length + 1) (m := l.length + 1) hli hli
                      by_cases hneg : closeM M l.length (x + 1) i i < 0
                      · have hng := hcl (x + 1) (by omega) ⟨i, by omega, hneg⟩
                        repeat (first|(with_reducible first|apply X1|apply X2|apply X3|apply X5|apply X6|apply X8|apply X9|apply Y3|apply Y5)|((with_reducible apply e_end);(simp;exact Red.rfl))|((with_reducible apply O1);rfl;(simp (disch:=omega) [hli, hli2, roi, r1, hneg];exact Red.rfl);exact Red.rfl;(focus (first|(simp;done)|omega|(simp;omega))))|((with_reducible apply Z9);(simp (disch:=omega) [hli, hli2, roi, r1, hneg];exact Red.rfl)))
                        exact q_post (v' := .tuple [.nilslice, .bool false]) (.inr rfl) (by simp; exact Red.rfl) (le_drop (by simp)) (.inr ⟨hng, rfl, rfl⟩)
                      · repeat (first|(with_reducible first|apply X1|apply X2|apply X5|apply X6|apply X8|apply Y2)|((with_reducible apply e_end);(simp;exact Red.rfl))|((with_reducible apply O1);rfl;(simp (disch:=omega) [hli, hli2, roi, r1, hneg];exact Red.rfl);exact Red.rfl;(focus (first|(simp;done)|omega|(simp;omega))))|((with_reducible apply Z9);(simp (disch:=omega) [hli, hli2, roi, r1, hneg];exact Red.rfl))|((with_reducible apply W3);(simp (disch:=omega) [hli, hli2, roi, r1, hneg];exact Red.rfl)))
                        exact q_again ⟨i + 1, by omega, fun j hj => by
                          rcases Nat.lt_or_ge j i with h | h
                          · exact hdi j h
                          · obtain rfl : j = i := by omega
                            omega⟩ (by dsimp only; omega) (.inl (by simp))
                    · obtain rfl : i = l.length + 1 := by omega
                      repeat (first|(with_reducible first|apply X1|apply X2|apply X4|apply X8|apply Y1|apply Y2|apply Y4|apply Y6)|((with_reducible apply e_end);(simp;exact Red.rfl))|((with_reducible apply O1);rfl;(simp (disch:=omega);exact Red.rfl);exact Red.rfl;(focus (first|(simp;done)|omega|(simp;omega))))|((with_reducible apply W3);(simp (disch:=omega);exact Red.rfl)))
                      exact q_again ⟨x + 1, by omega, fun j hj => hdi j (by omega)⟩ (by dsimp only; omega) (.inl (by simp))
            · obtain rfl : x = l.length + 1 := by omega
              have hg := hgk hdx
              generalize closeM M l.length (l.length + 1) = C at *
              have hL := hM_len H C (l.length + 1) (l.length + 1)
              have ro := fun (i : Nat) (hi : i < l.length + 1) => hM_rdO H C (n := l.length + 1) (m := l.length + 1) hi (Nat.le_refl _)
              have rr := fun (i j : Nat) (hi : i < l.length + 1) (hj : j < l.length + 1) => hM_rd H C (n := l.length + 1) (m := l.length + 1) hi hj
              have hBx : ∃ G0, hM H C (l.length + 1) (l.length + 1) = H ++ G0 := ⟨_, rfl⟩
              generalize hM H C (l.length + 1) (l.length + 1) = B at *
              have plr := plain_r2 (fun j => -C (j + 1) j) (fun j => C j (j + 1))
              repeat (first|(with_reducible first|apply X1|apply X2|apply X4|apply X6|apply X8|apply Y1|apply Y4|apply Y6)|((with_reducible apply e_end);(simp;exact Red.rfl))|((with_reducible apply O1);rfl;(simp (disch:=omega);exact Red.rfl);exact Red.rfl;(focus (first|(simp;done)|omega|(simp;omega))))|((with_reducible apply W3);(simp (disch:=omega);exact Red.rfl)))
              refine e_loop (ι := { p : Nat × Nat × Heap // p.1 ≤ l.length ∧ (0 < p.1 → p.2.2[p.2.1]? = some (.cells (avR (r2 (fun j => -C (j + 1) j) (fun j => C j (j + 1))) p.1) true)) })
                (fun p => [(8, .int .i64 ((l.length : Int) + 1)), (9, .slice H.length 0 (l.length + 1) 1 true), (20, if p.1.1 = 0 then .nilslice else .slice (B.length + p.1.2.1) 0 p.1.1 2 false), (21, .int .i64 p.1.1)])
                (fun p => B ++ p.1.2.2) (fun p => l.length - p.1.1) ⟨(0, 0, []), by simp, by simp⟩ ?_ ?_
              · exact .inl (by simp)
              · rintro ⟨⟨i, c, G⟩, hi, hG⟩
                dsimp only at hi hG ⊢
                by_cases hlt : i < l.length
                · have hlt2 : (i : Int) + 1 < (l.length : Int) + 1 := by omega
                  have hlt3 : i < l.length + 1 := by omega
                  have hlt4 : (i : Int) < (l.length : Int) + 1 := by omega
                  have hz : ((i : Int) + 1).toNat = i + 1 := by omega
                  have ra := ro i (by omega)
                  have rb := ro (i + 1) (by omega)
                  have r1 := rr (i + 1) i (by omega) (by omega)
                  have r2 := rr i (i + 1) (by omega) (by omega)
                  have j0 := rd_lt ra
                  have j1 := rd_lt r1
                  have j2 := rd_lt r2
                  have b1 := bx (i + 1) i (by omega) (by omega)
                  have b2 := bx i (i + 1) (by omega) (by omega)
                  have hneg : IntKind.i64.wrap (0 - C (i + 1) i) = -C (i + 1) i := by rw [wrap64] <;> omega
                  by_cases h0 : i = 0
                  · rw [if_pos h0]
                    repeat (first|(with_reducible first|apply X1|apply X2|apply X5|apply X6|apply X8|apply Y2|apply Y9)|((with_reducible first|apply e_end|apply d_end);(simp;exact Red.rfl))|((first|((with_reducible apply O1);rfl)|((with_reducible apply P1);rfl)|((with_reducible apply P2);rfl)|((with_reducible apply P3);rfl)|((with_reducible apply P5);rfl));(simp (disch:=omega) [hlt2, hlt3, hlt4, hz, rd_old _ j0, rd_old _ j1, rd_old _ j2, ra, rb, r1, r2, hneg];exact Red.rfl);exact Red.rfl;(focus (first|(simp;done)|omega|(simp;omega))))|((with_reducible apply Z9);(simp (disch:=omega) [hlt2, hlt3, hlt4, hz, rd_old _ j0, rd_old _ j1, rd_old _ j2, ra, rb, r1, r2, hneg];exact Red.rfl)))
                    refine q_again ⟨(i + 1, G.length + 1, G ++ [.cells [.int .i64 (-C (i + 1) i), .int .i64 (C i (i + 1))] true, .cells [.int .i64 (-C (i + 1) i), .int .i64 (C i (i + 1))] true]), hlt, ?_⟩ (by dsimp only; omega) (.inl (by simp [h0]))
                    · intro _
                      subst h0
                      simp [avR, Go.Proofs.r2]
                  · have hG := hG (by omega)
                    have hcl := (List.getElem?_eq_some_iff.1 hG).1
                    simp only [if_neg h0]
                    have gA : ∀ X : Heap, (B ++ (G ++ X))[B.length + c]? = some (.cells (avR (Go.Proofs.r2 (fun j => -C (j + 1) j) (fun j => C j (j + 1))) i) true) := fun X => by rw [at_new, List.getElem?_append_left hcl]; exact hG
                    have gR : ∀ X : Heap, rd (B ++ (G ++ X)) (B.length + c) 0 (i * 2) = some (avR (Go.Proofs.r2 (fun j => -C (j + 1) j) (fun j => C j (j + 1))) i) := fun X => rd_full (gA X) (plr.length i)
                    have gS : ∀ X : Heap, (B ++ (G ++ X)).set (B.length + c) .dead = B ++ (G.set c .dead ++ X) := fun X => by rw [set_new, List.set_append_left _ _ hcl]
                    repeat (first|(with_reducible first|apply X1|apply X2|apply X5|apply X6|apply X8|apply Y9)|((with_reducible apply e_end);(simp;exact Red.rfl))|((first|((with_reducible apply O1);rfl)|((with_reducible apply P1);rfl)|((with_reducible apply P2);rfl)|((with_reducible apply P3);rfl));(simp (disch:=omega) [hlt2, hlt3, hlt4, hz, rd_old _ j0, rd_old _ j1, rd_old _ j2, ra, rb, r1, r2, hneg];exact Red.rfl);exact Red.rfl;(focus (first|(simp;done)|omega|(simp;omega))))|((with_reducible apply Z9);(simp (disch:=omega) [hlt2, hlt3, hlt4, hz, rd_old _ j0, rd_old _ j1, rd_old _ j2, ra, rb, r1, r2, hneg];exact Red.rfl)))
                    (with_reducible apply d_do_); rfl; rfl; (simp (disch := omega) [rd_old _ j0, rd_old _ j1, rd_old _ j2, ra, rb, r1, r2, hneg, gA, gR, gS]; exact Red.rfl); exact Red.rfl
                    · (first | (simp; done) | omega | (simp; omega))
                    · (first | (simp; done) | omega | (simp; omega))
                    · (first | (simp; done) | omega | (simp; omega))
                    · simp [recheck, pr, AOp.sem, rd_old _ j0, rd_old _ j1, rd_old _ j2, ra, rb, r1, r2, hneg, gA, gR, gS]
                    simp only [St.put]
                    repeat (first|(with_reducible first|apply X2|apply X8|apply Y2)|((with_reducible first|apply e_end|apply d_end);(simp;exact Red.rfl))|((first|((with_reducible apply O1);rfl)|((with_reducible apply P1);rfl));(simp (disch:=omega);exact Red.rfl);exact Red.rfl;(focus (first|(simp;done)|omega|(simp;omega)))))
                    refine q_again ⟨(i + 1, G.length + 1, G.set c .dead ++ [.cells [.int .i64 (-C (i + 1) i), .int .i64 (C i (i + 1))] true, .cells (avR (Go.Proofs.r2 (fun j => -C (j + 1) j) (fun j => C j (j + 1))) i ++ [.int .i64 (-C (i + 1) i), .int .i64 (C i (i + 1))]) true]), hlt, ?_⟩ (by dsimp only; omega) (.inl (by simp))
                    · intro _
                      simp [avR_succ, Go.Proofs.r2, List.getElem?_append]
                · obtain rfl : i = l.length := by omega
                  have hG := hG (by omega)
                  have h0 : ¬ l.length = 0 := by omega
                  rw [if_neg h0]
                  repeat (first|(with_reducible first|apply X1|apply X2|apply X3|apply X4|apply X8|apply Y1|apply Y4|apply Y6)|((with_reducible apply e_end);(simp;exact Red.rfl))|((with_reducible apply O1);rfl;(simp (disch:=omega);exact Red.rfl);exact Red.rfl;(focus (first|(simp;done)|omega|(simp;omega))))|((with_reducible apply W3);(simp (disch:=omega);exact Red.rfl)))
                  obtain ⟨G0, rfl⟩ := hBx
                  have hgl := (List.getElem?_eq_some_iff.1 hG).1
                  have hA : AAt (H ++ (G0 ++ G)) 2 (.slice ((H ++ G0).length + c) 0 l.length 2 false) (avR (r2 (fun j => -C (j + 1) j) (fun j => C j (j + 1))) l.length) l.length :=
                    ⟨plr.length _, .inr ⟨_, by omega, rfl, by rw [List.length_append, Nat.add_assoc, at_new, List.getElem?_append_right (by omega), show G0.length + c - G0.length = c by omega]; exact hG⟩⟩
                  have hle := le_ls (fun x => .tuple [x, .bool true]) (fun x ρ => rfl) (fun x m h => by simpa [AV.sc, scL] using h) (plr.plain _) hA (fun k hk => by
                    have : (H ++ G0).length + c = k := hk
                    simp at this; omega)
                  simp only [lsV, lsO, if_neg h0] at hle
                  rw [List.append_assoc]
                  exact q_post (.inr rfl) (by simp; exact Red.rfl) hle (.inl ⟨hg, rfl, rfl⟩)
end Go.Proofs
/- What measures leave, by the reference. -/
namespace Go.Proofs
open Go.Abs
attribute [local simp] AOp.den AOpd.ev lk cellsOf rd_new rd_new0 rd_zero rd_succ wr_new wr_new0 wr_zero wr_succ splice fillA binA scal sliceCells List.length_append argsT AV.sc scL AObj.sc resV getAll AR.get AOp.slots opdSlots opdsSlots partSlots eqAt at_new0 at_new set_new0 set_new wrap64
set_option linter.unusedSimpArgs false
set_option linter.unusedVariables false
theorem AAt.keep {h h' : Heap} {sz : Nat} {v : AV} {cs : List AV} {n : Nat} (hl : AAt h sz v cs n) (hk : ∀ i, i < h.length → isId v i → h'[i]? = h[i]?) : AAt h' sz v cs n := by
  obtain ⟨hc, h1 | ⟨id, h0, rfl, hh⟩⟩ := hl
  · exact ⟨hc, .inl h1⟩
  · exact ⟨hc, .inr ⟨id, h0, rfl, by rw [hk id (List.getElem?_eq_some_iff.1 hh).1 rfl]; exact hh⟩⟩
def lfF (l : List Str) (ms : List Ms) (i j : Nat) : Str := if j < i then lefS l ms j else strAt l j
theorem lfF_step (l : List Str) (ms : List Ms) {i : Nat} (hi : i < l.length) : updS (lfF l ms i) i (putF (putL (strAt l i) (-closeK kLong l ms (i + 1) i) (closeK kLong l ms i (i + 1))) (-closeK kFall l ms (i + 1) i) (closeK kFall l ms i (i + 1))) = lfF l ms (i + 1) := by
  funext j
  simp only [updS, lfF]
  by_cases h : j = i
  · subst h; rw [if_pos rfl, if_pos (by omega), lef_eq hi]
  · rw [if_neg h]
    by_cases h2 : j < i
    · rw [if_pos h2, if_pos (by omega)]
    · rw [if_neg h2, if_neg (by omega)]
set_option maxHeartbeats 4000000 in
theorem c_rnarrow (H : Heap) (l : List Str) (id off : Nat) (ex : Bool) (ms : List Ms) (mv : AV) (hs : rd H id off (l.length * 9) = some (l.flatMap Str.av)) (hv : validL l) (hm : SlM H mv ms) (hok : okMs l.length ms) :
    ACalls Try.prog F.ref01_narrow [.agg [.slice id off l.length 9 ex], mv] H (fun v h' =>
      ((goodK kLong l ms ∧ goodK kFall l ms) ∧ v = .tuple [.agg [.slice H.length 0 l.length 9 false], .bool true] ∧ h' = H ++ [.cells (avR (fun j => (lefS l ms j).av) l.length) true]) ∨
      (¬ (goodK kLong l ms ∧ goodK kFall l ms) ∧ v = .tuple [.agg [.nilslice], .bool false] ∧ h' = H)) := by
  refine acalls_of ok_ref01_narrow rfl fun hcl => ?_
  unfold ac_ref01_narrow
  simp only [argsT, Nat.zero_add, Nat.reduceAdd]
  have hid := rd_lt hs
  have h12 := hv.1
  have hsc := fun n h => hm.sc (n := n) h
  repeat (first|(with_reducible first|apply X1|apply X2|apply X6|apply X8)|((with_reducible apply e_end);(simp;exact Red.rfl))|((with_reducible apply O1);rfl;(simp (disch:=omega);exact Red.rfl);exact Red.rfl;(focus (first|(simp;done)|omega|(simp;omega)))))
  refine e_loop (ι := { p : Nat × AV × AV × Heap // p.1 ≤ l.length ∧ AAt (H ++ [.cells [.slice id off l.length 9 ex] true, .cells [.nilslice] true] ++ p.2.2.2) 2 p.2.1 (avR (r2 (kLo kLong l) (kHi kLong l)) p.1) p.1 ∧ AAt (H ++ [.cells [.slice id off l.length 9 ex] true, .cells [.nilslice] true] ++ p.2.2.2) 2 p.2.2.1 (avR (r2 (kLo kFall l) (kHi kFall l)) p.1) p.1 ∧ (∀ k, isId p.2.1 k → H.length + 2 ≤ k ∧ ¬ isId p.2.2.1 k) ∧ ∀ k, isId p.2.2.1 k → H.length + 2 ≤ k })
    (fun p => [(1, mv), (2, .ptr H.length 0), (4, .ptr (H.length + 1) 0), (6, p.1.2.1), (7, p.1.2.2.1), (8, .int .i64 p.1.1)])
    (fun p => H ++ [.cells [.slice id off l.length 9 ex] true, .cells [.nilslice] true] ++ p.1.2.2.2) (fun p => l.length - p.1.1) ⟨(0, .nilslice, .nilslice, []), by simp, AAt.nil _ _, AAt.nil _ _, fun _ hk => False.elim hk, fun _ hk => False.elim hk⟩ ?_ ?_
  · exact .inl (by simp)
  · rintro ⟨⟨i, v, w, G⟩, hi, hA, hB, hvi, hwi⟩
    dsimp only at hi hA hB hvi hwi ⊢
    by_cases hlt : i < l.length
    · have hlt2 : (i : Int) < l.length := by omega
      have hx := rd_row Str.av_length hs hlt
      have y1 := rd_sub hx (j := 1) (m := 2) (by omega)
      have y3 := rd_sub hx (j := 3) (m := 2) (by omega)
      have eL : avR (r2 (kLo kLong l) (kHi kLong l)) (i + 1) = avR (r2 (kLo kLong l) (kHi kLong l)) i ++ [.int .i64 (l[i]).lLo, .int .i64 (l[i]).lHi] := by rw [avR_succ]; simp [r2, kLo, kHi, kLong, strAt_eq hlt]
      have eF : avR (r2 (kLo kFall l) (kHi kFall l)) (i + 1) = avR (r2 (kLo kFall l) (kHi kFall l)) i ++ [.int .i64 (l[i]).fLo, .int .i64 (l[i]).fHi] := by rw [avR_succ]; simp [r2, kLo, kHi, kFall, strAt_eq hlt]
      generalize l[i] = s at y1 y3 eL eF
      obtain ⟨a1, a2, a3, a4, a5, a6, a7, a8, a9⟩ := s
      simp only [Str.av, List.take_succ_cons, List.take_zero, List.drop_succ_cons, List.drop_zero] at y1 y3 eL eF
      simp only [List.append_assoc, List.cons_append, List.nil_append]
      repeat (first|(with_reducible first|apply X1|apply X2|apply X5|apply X6|apply X8)|((with_reducible apply e_end);(simp;exact Red.rfl))|((with_reducible apply O1);rfl;(simp (disch:=omega) [hlt, hlt2, rd_old _ hid, y1, y3];exact Red.rfl);exact Red.rfl;(focus (first|(simp;done)|omega|(simp;omega))))|((with_reducible apply Z9);(simp (disch:=omega) [hlt, hlt2, rd_old _ hid, y1, y3];exact Red.rfl)))
      refine e_appA (A := H ++ [.cells [.slice id off l.length 9 ex] true, .cells [.nilslice] true]) (G := G ++ [.cells [.int .i64 a2, .int .i64 a3] true]) (cs := avR (r2 (kLo kLong l) (kHi kLong l)) i) (n := i) (m := 1) (new := [.int .i64 a2, .int .i64 a3]) (by simp) (by simp; exact Red.rfl) (by simp; exact Red.rfl) (by have := hA.app [.cells [.int .i64 a2, .int .i64 a3] true]; simpa using this) (fun k hk => by have := hvi k hk; simp; omega) (by simp [Nat.add_assoc]) (by simp) (by omega) (by omega) ?_
      intro G2 v2 e3 e4 e5 e6 e7
      simp only [List.append_assoc, List.cons_append, List.nil_append] at e5 e6 e7
      have hB2 : AAt (H ++ [.cells [.slice id off l.length 9 ex] true, .cells [.nilslice] true] ++ G2) 2 w (avR (r2 (kLo kFall l) (kHi kFall l)) i) i := by
        have h1 := hB.app [.cells [.int .i64 a2, .int .i64 a3] true]
        simp only [List.append_assoc, List.cons_append, List.nil_append] at h1 ⊢
        refine h1.keep fun k hk hkw => ?_
        have := e5 k (by simpa using hk) (fun hkv => (hvi k hkv).2 hkw)
        simpa using this
      simp only [List.append_assoc, List.cons_append, List.nil_append]
      repeat (first|(with_reducible first|apply X2|apply X8)|((with_reducible apply e_end);(simp;exact Red.rfl))|((with_reducible apply O1);rfl;(simp (disch:=omega) [hlt, hlt2, rd_old _ hid, y1, y3];exact Red.rfl);exact Red.rfl;(focus (first|(simp;done)|omega|(simp;omega)))))
      refine e_appA (A := H ++ [.cells [.slice id off l.length 9 ex] true, .cells [.nilslice] true]) (G := G2 ++ [.cells [.int .i64 a4, .int .i64 a5] true]) (cs := avR (r2 (kLo kFall l) (kHi kFall l)) i) (n := i) (m := 1) (new := [.int .i64 a4, .int .i64 a5]) (by simp) (by simp; exact Red.rfl) (by simp; exact Red.rfl) (by have := hB2.app [.cells [.int .i64 a4, .int .i64 a5] true]; simpa using this) (fun k hk => by have := hwi k hk; simp; omega) (by simp [Nat.add_assoc]) (by simp) (by omega) (by omega) ?_
      intro G3 w2 f3 f4 f5 f6 f7
      simp only [List.append_assoc, List.cons_append, List.nil_append] at f5 f6 f7
      have hlw : ∀ k, isId w k → k < (H ++ ([.cells [.slice id off l.length 9 ex] true, .cells [.nilslice] true] : Heap) ++ G).length := by
        intro k hk
        obtain ⟨_, ⟨rfl, _⟩ | ⟨id', _, rfl, hh⟩⟩ := hB
        · cases hk
        · have : id' = k := hk
          subst this
          exact (List.getElem?_eq_some_iff.1 hh).1
      have hv2w : ∀ k, isId v2 k → ¬ isId w k := fun k hk hkw => by
        have h1 := e6 k hk
        have h2 := hlw k hkw
        simp at h1 h2
        omega
      have hA2 : AAt (H ++ [.cells [.slice id off l.length 9 ex] true, .cells [.nilslice] true] ++ G3) 2 v2 (avR (r2 (kLo kLong l) (kHi kLong l)) i ++ [.int .i64 a2, .int .i64 a3]) (i + 1) := by
        have h1 := e3.app [.cells [.int .i64 a4, .int .i64 a5] true]
        simp only [List.append_assoc, List.cons_append, List.nil_append] at h1 ⊢
        refine h1.keep fun k hk hkw => ?_
        have := f5 k (by simpa using hk) (hv2w k hkw)
        simpa using this
      have hlv2 : ∀ k, isId v2 k → k < (H ++ ([.cells [.slice id off l.length 9 ex] true, .cells [.nilslice] true] : Heap) ++ G2).length := by
        intro k hk
        obtain ⟨_, ⟨rfl, _⟩ | ⟨id', _, rfl, hh⟩⟩ := e3
        · cases hk
        · have : id' = k := hk
          subst this
          exact (List.getElem?_eq_some_iff.1 hh).1
      repeat (first|(with_reducible first|apply X2|apply X8|apply Y2)|((with_reducible apply e_end);(simp;exact Red.rfl))|((with_reducible apply O1);rfl;(simp (disch:=omega);exact Red.rfl);exact Red.rfl;(focus (first|(simp;done)|omega|(simp;omega)))))
      refine q_again ⟨(i + 1, v2, w2, G3), hlt, by rw [eL]; exact hA2, by rw [eF]; exact f3, fun k hk => ⟨by have := e4 k hk; simpa using this, fun hkw => ?_⟩, fun k hk => by have := f4 k hk; simpa using this⟩ (by dsimp only; omega) (.inl (by simp))
      have h1 := f6 k hkw
      have h2 := hlv2 k hk
      simp at h1 h2
      omega
    · obtain rfl : i = l.length := by omega
      have h0 : 0 < l.length := by omega
      obtain ⟨hc1, ⟨_, hbad⟩ | ⟨vid, _, rfl, hvh⟩⟩ := hA
      · omega
      obtain ⟨hc2, ⟨_, hbad⟩ | ⟨wid, _, rfl, hwh⟩⟩ := hB
      · omega
      have r1 := rd_full hvh hc1
      have r2' := rd_full hwh hc2
      have j1 := rd_lt r1
      have j2 := rd_lt r2'
      simp only [List.append_assoc, List.cons_append, List.nil_append] at r1 r2' j1 j2 ⊢
      repeat (first|(with_reducible first|apply X1|apply X2|apply X4|apply X8|apply Y1|apply Y4|apply Y6)|((with_reducible apply e_end);(simp;exact Red.rfl))|((with_reducible apply O1);rfl;(simp (disch:=omega);exact Red.rfl);exact Red.rfl;(focus (first|(simp;done)|omega|(simp;omega))))|((with_reducible apply W3);(simp (disch:=omega);exact Red.rfl)))
      have c1 := c_hull (H ++ .cells [.slice id off l.length 9 ex] true :: .cells [.nilslice] true :: G) l kLong kLong_ok hv vid false ms mv r1 (hm.app _) hok
      have c2 := fun X => c_hull (H ++ .cells [.slice id off l.length 9 ex] true :: .cells [.nilslice] true :: (G ++ X)) l kFall kFall_ok hv wid false ms mv (by
        have := rd_old X j2 0 (l.length * 2)
        simp only [List.append_assoc, List.cons_append, List.nil_append] at this
        rw [this]; exact r2') (hm.app _) hok
      (with_reducible apply e_call); (simp; exact Red.rfl); exact c1
      rintro _ _ (⟨hL, rfl, rfl⟩ | ⟨hL, rfl, rfl⟩)
      rotate_left
      · repeat (first|(with_reducible first|apply X1|apply X2|apply X8)|((with_reducible apply e_end);(simp;exact Red.rfl))|((with_reducible apply O1);rfl;(simp (disch:=omega);exact Red.rfl);exact Red.rfl;(focus (first|(simp;done)|omega|(simp;omega)))))
        have c2 := c2 []
        rw [List.append_nil] at c2
        (with_reducible apply e_call); (simp; exact Red.rfl); exact c2
        rintro _ _ (⟨hF, rfl, rfl⟩ | ⟨hF, rfl, rfl⟩)
        · repeat (first|(with_reducible first|apply X1|apply X2|apply X3|apply X8|apply X9)|((with_reducible apply e_end);(simp;exact Red.rfl))|((first|((with_reducible apply O1);rfl)|((with_reducible apply O2);rfl));(simp (disch:=omega);exact Red.rfl);exact Red.rfl;(focus (first|(simp;done)|omega|(simp;omega))))|((with_reducible apply Z9);(simp (disch:=omega);exact Red.rfl))|((with_reducible apply Z2);(simp (disch:=omega);exact Red.rfl)))
          refine q_drop (.inr rfl) (by simp; exact Red.rfl) (by simp) (.inr ⟨fun h => hL h.1, rfl, rfl⟩)
        · repeat (first|(with_reducible first|apply X1|apply X2|apply X3|apply X8|apply X9)|((with_reducible apply e_end);(simp;exact Red.rfl))|((first|((with_reducible apply O1);rfl)|((with_reducible apply O2);rfl));(simp (disch:=omega);exact Red.rfl);exact Red.rfl;(focus (first|(simp;done)|omega|(simp;omega))))|((with_reducible apply Z9);(simp (disch:=omega);exact Red.rfl))|((with_reducible apply Z2);(simp (disch:=omega);exact Red.rfl)))
          refine q_drop (.inr rfl) (by simp; exact Red.rfl) (by simp) (.inr ⟨fun h => hL h.1, rfl, rfl⟩)
      · simp only [List.append_assoc, List.cons_append, List.nil_append]
        repeat (first|(with_reducible first|apply X1|apply X2|apply X8)|((with_reducible apply e_end);(simp;exact Red.rfl))|((with_reducible apply O1);rfl;(simp (disch:=omega);exact Red.rfl);exact Red.rfl;(focus (first|(simp;done)|omega|(simp;omega)))))
        (with_reducible apply e_call); (simp; exact Red.rfl); exact c2 _
        rintro _ _ (⟨hF, rfl, rfl⟩ | ⟨hF, rfl, rfl⟩)
        rotate_left
        · repeat (first|(with_reducible first|apply X1|apply X2|apply X3|apply X8|apply X9)|((with_reducible apply e_end);(simp;exact Red.rfl))|((first|((with_reducible apply O1);rfl)|((with_reducible apply O2);rfl));(simp (disch:=omega);exact Red.rfl);exact Red.rfl;(focus (first|(simp;done)|omega|(simp;omega))))|((with_reducible first|apply Z7|apply Z9);(simp (disch:=omega);exact Red.rfl)))
          refine q_drop (.inr rfl) (by simp; exact Red.rfl) (by simp) (.inr ⟨fun h => hF h.2, rfl, rfl⟩)
        · repeat (first|(with_reducible first|apply X1|apply X2|apply X5|apply X8)|((with_reducible apply e_end);(simp;exact Red.rfl))|((with_reducible apply O1);rfl;(simp (disch:=omega);exact Red.rfl);exact Red.rfl;(focus (first|(simp;done)|omega|(simp;omega))))|((with_reducible apply Z7);(simp (disch:=omega);exact Red.rfl))|((with_reducible apply W3);(simp (disch:=omega);exact Red.rfl)))
          (with_reducible apply e_call); (simp; exact Red.rfl); exact c_Twin _ l id off ex (by rw [rd_old _ hid]; exact hs) (by omega)
          rintro _ _ ⟨rfl, rfl⟩
          rw [flat_eq]
          repeat (first|(with_reducible first|apply X1|apply X2|apply X6|apply X8)|((with_reducible apply e_end);(simp;exact Red.rfl))|((first|((with_reducible apply O1);rfl)|((with_reducible apply O2);rfl));(simp (disch:=omega);exact Red.rfl);exact Red.rfl;(focus (first|(simp;done)|omega|(simp;omega)))))
          have lL : (avR (r2 (fun j => -closeK kLong l ms (j + 1) j) (fun j => closeK kLong l ms j (j + 1))) l.length).length = l.length * 2 := (plain_r2 _ _).length _
          have lF : (avR (r2 (fun j => -closeK kFall l ms (j + 1) j) (fun j => closeK kFall l ms j (j + 1))) l.length).length = l.length * 2 := (plain_r2 _ _).length _
          refine e_loop (ι := { i : Nat // i ≤ l.length })
            (fun i => [(4, .ptr (H.length + 1) 0), (9, .slice (H.length + (G.length + 1 + 1)) 0 l.length 2 false), (11, .slice (H.length + (G.length + 1 + 1 + 1)) 0 l.length 2 false), (13, .ptr (H.length + (G.length + 3 + 1 + 1)) 0), (14, .int .i64 i.1)])
            (fun i => H ++ .cells [.slice id off l.length 9 ex] true :: .cells [.nilslice] true :: (G ++ [.cells (avR (r2 (fun j => -closeK kLong l ms (j + 1) j) (fun j => closeK kLong l ms j (j + 1))) l.length) true, .cells (avR (r2 (fun j => -closeK kFall l ms (j + 1) j) (fun j => closeK kFall l ms j (j + 1))) l.length) true, .cells (avR (fun j => (lfF l ms i.1 j).av) l.length) true, .cells [.slice (H.length + (G.length + 2 + 1 + 1)) 0 l.length 9 false] true])) (fun i => l.length - i.1) ⟨0, by omega⟩ ?_ ?_
          · exact .inl (by simp [lfF])
          · rintro ⟨i, hi⟩
            dsimp only
            by_cases hlt : i < l.length
            · have hlt2 : (i : Int) < l.length := by omega
              have rL := (plain_r2 (fun j => -closeK kLong l ms (j + 1) j) (fun j => closeK kLong l ms j (j + 1))).row hlt
              have rF := (plain_r2 (fun j => -closeK kFall l ms (j + 1) j) (fun j => closeK kFall l ms j (j + 1))).row hlt
              simp only [r2] at rL rF
              have hst := lfF_step l ms hlt
              have hsi : lfF l ms i i = strAt l i := by simp [lfF]
              have p1 := putS (lfF l ms i) (n := l.length) (i := i) (c := 1) (xs := [.int .i64 (-closeK kLong l ms (i + 1) i), .int .i64 (closeK kLong l ms i (i + 1))]) (putL (strAt l i) (-closeK kLong l ms (i + 1) i) (closeK kLong l ms i (i + 1))) hlt (by simp) (by rw [hsi]; rfl)
              have p2 := putS (updS (lfF l ms i) i (putL (strAt l i) (-closeK kLong l ms (i + 1) i) (closeK kLong l ms i (i + 1)))) (n := l.length) (i := i) (c := 3) (xs := [.int .i64 (-closeK kFall l ms (i + 1) i), .int .i64 (closeK kFall l ms i (i + 1))]) (putF (putL (strAt l i) (-closeK kLong l ms (i + 1) i) (closeK kLong l ms i (i + 1))) (-closeK kFall l ms (i + 1) i) (closeK kFall l ms i (i + 1))) hlt (by simp) (by rw [updS_i]; rfl)
              have huu : ∀ (S : Nat → Str) (x y : Str), updS (updS S i x) i y = updS S i y := fun S x y => by
                funext j; simp only [updS]; split <;> rfl
              rw [huu, hst] at p2
              generalize updS (lfF l ms i) i (putL (strAt l i) (-closeK kLong l ms (i + 1) i) (closeK kLong l ms i (i + 1))) = S1 at *
              have w1 : i * 2 + 2 ≤ l.length * 2 := by omega
              have w2 : i * 9 + 1 + 2 ≤ l.length * 9 := by omega
              have w3 : i * 9 + 3 + 2 ≤ l.length * 9 := by omega
              have w4 : i * 9 + 1 + 1 + 1 ≤ l.length * 9 := by omega
              have w5 : i * 9 + 3 + 1 + 1 ≤ l.length * 9 := by omega
              repeat (first|(with_reducible first|apply X1|apply X2|apply X5|apply X6|apply X8|apply Y9)|((with_reducible apply e_end);(simp;exact Red.rfl))|((first|((with_reducible apply O1);rfl)|((with_reducible apply P1);rfl)|((with_reducible apply P2);rfl));(simp (disch:=omega) [hlt, hlt2, lL, lF, rL, rF, w1, w2, w3, w4, w5, lenS, -splice, p1, p2];exact Red.rfl);exact Red.rfl;(focus (first|(simp;done)|omega|(simp;omega))))|((with_reducible apply Z9);(simp (disch:=omega) [hlt, hlt2, lL, lF, rL, rF, w1, w2, w3, w4, w5, lenS, -splice, p1, p2];exact Red.rfl)))
              (with_reducible apply d_do_); rfl; rfl; (simp (disch := omega) [hlt, hlt2, lL, lF, rL, rF, w1, w2, w3, w4, w5, lenS, -splice, p1, p2]; exact Red.rfl); exact Red.rfl
              · (first | (simp; done) | omega | (simp; omega))
              · (first | (simp; done) | omega | (simp; omega))
              · (first | (simp; done) | omega | (simp; omega))
              · simp [recheck, pr, AOp.sem, hlt, hlt2, lL, lF, rL, rF, w1, w2, w3, w4, w5, lenS, -splice, p1, p2]
              simp only [St.put]
              repeat (first|(with_reducible first|apply X2|apply X8|apply Y2)|((with_reducible first|apply e_end|apply d_end);(simp;exact Red.rfl))|((first|((with_reducible apply O1);rfl)|((with_reducible apply P1);rfl)|((with_reducible apply P4);rfl));(simp (disch:=omega) [hlt, hlt2, lL, lF, rL, rF, w1, w2, w3, w4, w5, lenS, -splice, p1, p2];exact Red.rfl);exact Red.rfl;(focus (first|(simp;done)|omega|(simp;omega)))))
              exact q_again ⟨i + 1, hlt⟩ (by dsimp only; omega) (.inl (by simp))
            · obtain rfl : i = l.length := by omega
              have e : avR (fun j => (lfF l ms l.length j).av) l.length = avR (fun j => (lefS l ms j).av) l.length := avR_congr fun j hj => by simp [lfF, hj]
              rw [e]
              repeat (first|(with_reducible first|apply X1|apply X2|apply X3|apply X4|apply X8|apply Y1|apply Y4|apply Y6)|((with_reducible apply e_end);(simp;exact Red.rfl))|((first|((with_reducible apply O1);rfl)|((with_reducible apply O2);rfl));(simp (disch:=omega);exact Red.rfl);exact Red.rfl;(focus (first|(simp;done)|omega|(simp;omega))))|((with_reducible apply W3);(simp (disch:=omega);exact Red.rfl)))
              have pl := (plain_fun (lefS l ms)).plain l.length
              refine q_post (v := .tuple [.agg [.slice (H.length + (G.length + 2 + 1 + 1)) 0 l.length 9 false], .bool true]) (.inr rfl) (by simp; exact Red.rfl) ?_ (.inl ⟨⟨hL, hF⟩, rfl, rfl⟩)
              have hle := fun (X : Heap) (hA : AAt (H ++ X) 9 (.slice (H.length + (G.length + 2 + 1 + 1)) 0 l.length 9 false) (avR (fun j => (lefS l ms j).av) l.length) l.length) => le_ls (fun x => .tuple [.agg [x], .bool true]) (fun x ρ => rfl) (fun x m h => by simpa [AV.sc, scL] using h) pl hA (fun k hk => by
                have : H.length + (G.length + 2 + 1 + 1) = k := hk
                omega)
              have hn0 : ¬ l.length = 0 := by omega
              simp only [lsV, lsO, if_neg hn0] at hle
              exact hle _ ⟨lenS _ _, .inr ⟨_, h0, rfl, by simp [at_new]⟩⟩
end Go.Proofs
