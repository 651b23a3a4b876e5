/- Several texts as one. -/
import Derived.Test.YtihgpgkclggjgaaGreatDD
import Derived.Test.YtihgpgkclggjgaaGreatAc1
/- Numbers that are sorted. -/
namespace Go.Proofs
open Go.Abs
attribute [local simp] AOp.den AOpd.ev lk cellsOf rd_new rd_new0 rd_zero rd_succ wr_new wr_new0 wr_zero wr_succ splice fillA binA scal sliceCells List.length_append argsT AV.sc scL AObj.sc resV getAll AR.get AOp.slots opdSlots opdsSlots partSlots eqAt at_new0 at_new set_new0 set_new wrap64
set_option linter.unusedSimpArgs false
set_option linter.unusedVariables false
theorem c_isNaN (H : Heap) (x : Int) : ACalls Tryz.prog F.cmp_isNaN_int [.int .i64 x] H (fun v h' => v = .bool false ∧ h' = H) := by
  refine acalls_of ok_cmp_isNaN_int rfl fun hcl => ?_
  unfold ac_cmp_isNaN_int
  simp only [argsT, Nat.zero_add, Nat.reduceAdd]
  repeat (first|(with_reducible first|apply X1|apply X2|apply X3|apply X8)|((with_reducible apply e_end);(simp;exact Red.rfl))|((with_reducible apply O1);rfl;(simp (disch:=omega);exact Red.rfl);exact Red.rfl;(focus (first|(simp;done)|omega|(simp;omega)))))
  refine q_drop0 (.inr rfl) (by simp; exact Red.rfl) (by simp) ⟨rfl, rfl⟩
theorem c_Less (H : Heap) (x y : Int) : ACalls Tryz.prog F.cmp_Less_int [.int .i64 x, .int .i64 y] H (fun v h' => v = .bool (decide (x < y)) ∧ h' = H) := by
  refine acalls_of ok_cmp_Less_int rfl fun hcl => ?_
  unfold ac_cmp_Less_int
  simp only [argsT, Nat.zero_add, Nat.reduceAdd]
  repeat (first|(with_reducible first|apply X1|apply X2|apply X8)|((with_reducible apply e_end);(simp;exact Red.rfl))|((with_reducible apply O1);rfl;(simp (disch:=omega);exact Red.rfl);exact Red.rfl;(focus (first|(simp;done)|omega|(simp;omega)))))
  (with_reducible apply e_call); (simp; exact Red.rfl); exact c_isNaN _ _
  rintro _ _ ⟨rfl, rfl⟩
  repeat (first|(with_reducible first|apply X3|apply X8)|((with_reducible apply e_end);(simp;exact Red.rfl))|((with_reducible apply O1);rfl;(simp (disch:=omega);exact Red.rfl);exact Red.rfl;(focus (first|(simp;done)|omega|(simp;omega))))|((with_reducible apply Z7);(simp (disch:=omega);exact Red.rfl))|((with_reducible apply Z1);(simp (disch:=omega);exact Red.rfl)))
  refine q_drop0 (.inr rfl) (by simp; exact Red.rfl) (by simp) ⟨rfl, rfl⟩

theorem den_sIdx {x i : AOpd} {ev : AOpd → AV} {h : Heap} {s : ByteArray} {k : IntKind} {n : Nat} (hx : ev x = .str s) (hi : ev i = .int k (n : Int)) (hsz : n < s.size) :
    (AOp.sIdx x i).den ev h = .ok True (.int .u8 s[n].toNat) h := by
  simp only [AOp.den, AOp.fx, hx, hi]
  simp [hsz]
set_option maxRecDepth 100000 in
theorem c_Len64 (H : Heap) (n : Nat) (hn : n ≤ 12) : ACalls Tryz.prog F.math_bits_Len64 [.int .u64 n] H (fun v h' => h' = H ∧ ∃ k, v = .int .i64 k) := by
  refine acalls_of ok_math_bits_Len64 rfl fun hcl => ?_
  unfold ac_math_bits_Len64
  simp only [argsT, Nat.zero_add, Nat.reduceAdd]
  have h1 : ¬ (4294967296 : Int) ≤ n := by omega
  have h2 : ¬ (65536 : Int) ≤ n := by omega
  have h3 : ¬ (256 : Int) ≤ n := by omega
  have h4 : IntKind.u8.wrap (n : Int) = n := by simp [IntKind.wrap, IntKind.bits, IntKind.signed]; omega
  repeat (first|(with_reducible first|apply X1|apply X2|apply X5|apply X8)|((with_reducible apply e_end);(simp;exact Red.rfl))|((with_reducible apply O1);rfl;(simp (disch:=omega) [h1, h2, h3, h4];exact Red.rfl);exact Red.rfl;(focus (first|(simp;done)|omega|(simp;omega))))|((with_reducible apply W3);(simp (disch:=omega) [h1, h2, h3, h4];exact Red.rfl)))
  refine e_op (op := .sIdx _ _) rfl (den_sIdx (k := .u8) (n := n) rfl (by simp) (Nat.lt_of_le_of_lt hn (by decide))) Red.rfl trivial ?_
  generalize hb : (UInt8.toNat _) = b
  have hb2 : b < 256 := by rw [← hb]; exact UInt8.toNat_lt _
  repeat (first|(with_reducible first|apply X3|apply X8)|((with_reducible apply e_end);(simp;exact Red.rfl))|((with_reducible apply O1);rfl;(simp (disch:=omega);exact Red.rfl);exact Red.rfl;(focus (first|(simp;done)|omega|(simp;omega)))))
  refine q_drop0 (.inr rfl) (by simp; exact Red.rfl) (by simp) ⟨rfl, _, rfl⟩
theorem c_Len (H : Heap) (n : Nat) (hn : n ≤ 12) : ACalls Tryz.prog F.math_bits_Len [.int .u64 n] H (fun v h' => h' = H ∧ ∃ k, v = .int .i64 k) := by
  refine acalls_of ok_math_bits_Len rfl fun hcl => ?_
  unfold ac_math_bits_Len
  simp only [argsT, Nat.zero_add, Nat.reduceAdd]
  repeat (first|(with_reducible first|apply X1|apply X2|apply X5|apply X8)|((with_reducible apply e_end);(simp;exact Red.rfl))|((with_reducible apply O1);rfl;(simp (disch:=omega);exact Red.rfl);exact Red.rfl;(focus (first|(simp;done)|omega|(simp;omega))))|((with_reducible apply W3);(simp (disch:=omega);exact Red.rfl)))
  (with_reducible apply e_call); (simp; exact Red.rfl); exact c_Len64 _ n hn
  rintro _ _ ⟨rfl, k, rfl⟩
  repeat (first|(with_reducible first|apply X3|apply X8)|((with_reducible apply e_end);(simp;exact Red.rfl))|((with_reducible apply O1);rfl;(simp (disch:=omega);exact Red.rfl);exact Red.rfl;(focus (first|(simp;done)|omega|(simp;omega)))))
  refine q_drop0 (.inr rfl) (by simp; exact Red.rfl) (by simp) ⟨rfl, k, rfl⟩

def swF (f : Nat → Int) (a : Nat) (j : Nat) : Int := if j = a then f (a + 1) else if j = a + 1 then f a else f j
def Ord (n : Nat) (k f : Nat → Int) : Prop := ∃ r : Nat → Nat, (∀ j, j < n → r j < n) ∧ (∀ i j, i < n → j < n → r i = r j → i = j) ∧ ∀ j, j < n → f j = k (r j)
def swI (a j : Nat) : Nat := if j = a then a + 1 else if j = a + 1 then a else j
theorem Ord.sw {n : Nat} {k f : Nat → Int} (h : Ord n k f) {a : Nat} (ha : a + 1 < n) : Ord n k (swF f a) := by
  obtain ⟨r, h1, h2, h3⟩ := h
  have b : ∀ j, j < n → swI a j < n := fun j hj => by
    unfold swI; split
    · omega
    · split <;> omega
  refine ⟨fun j => r (swI a j), fun j hj => h1 _ (b j hj), fun i j hi hj he => ?_, fun j hj => ?_⟩
  · have := h2 _ _ (b i hi) (b j hj) he
    simp only [swI] at this
    repeat' split at this
    all_goals omega
  · rw [← h3 _ (b j hj)]
    unfold swF swI
    split
    · rfl
    · split <;> rfl
theorem Ord.eq {n : Nat} {k f : Nat → Int} (h : Ord n k f) (hk : ∀ i j, i < j → j < n → k i < k j) (hs : ∀ i j, i < j → j < n → f i ≤ f j) : ∀ j, j < n → f j = k j := by
  obtain ⟨r, h1, h2, h3⟩ := h
  have mono : ∀ i j, i < j → j < n → r i < r j := by
    intro i j hij hj
    rcases Nat.lt_trichotomy (r i) (r j) with h | h | h
    · exact h
    · have := h2 _ _ (by omega) hj h; omega
    · have e1 := hs i j hij hj
      rw [h3 i (by omega), h3 j hj] at e1
      have e2 := hk _ _ h (h1 i (by omega))
      omega
  have low : ∀ j, j < n → j ≤ r j := by
    intro j
    induction j with
    | zero => intro _; omega
    | succ j ih => intro hj; have := mono j (j + 1) (by omega) hj; have := ih (by omega); omega
  have high : ∀ d j, j + d + 1 = n → r j ≤ j := by
    intro d
    induction d with
    | zero => intro j hj; have := h1 j (by omega); omega
    | succ d ih => intro j hj; have := mono j (j + 1) (by omega) (by omega); have := ih (j + 1) (by omega); omega
  intro j hj
  have := low j hj
  have := high (n - j - 1) j (by omega)
  rw [h3 j hj, show r j = j by omega]
def InnerOK (f : Nat → Int) (i j : Nat) : Prop := j ≤ i ∧ ∀ p q, p < q → q ≤ i → q ≠ j → f p ≤ f q
theorem inner_step {f : Nat → Int} {i j : Nat} (h : InnerOK f i (j + 1)) (hlt : f (j + 1) < f j) : InnerOK (swF f j) i j := by
  obtain ⟨h1, h2⟩ := h
  refine ⟨by omega, fun p q hpq hqi hqj => ?_⟩
  have key := h2 p q hpq hqi
  by_cases hq1 : q = j + 1
  · subst hq1
    rw [show swF f j (j + 1) = f j by simp [swF]]
    by_cases hp : p = j
    · subst hp; rw [show swF f p p = f (p + 1) by simp [swF]]; omega
    · rw [show swF f j p = f p by simp only [swF]; rw [if_neg hp, if_neg (by omega)]]
      exact h2 p j (by omega) (by omega) (by omega)
  · rw [show swF f j q = f q by simp only [swF]; rw [if_neg hqj, if_neg hq1]]
    by_cases hp : p = j
    · subst hp; rw [show swF f p p = f (p + 1) by simp [swF]]; exact h2 (p + 1) q (by omega) hqi hq1
    · by_cases hp1 : p = j + 1
      · subst hp1; rw [show swF f j (j + 1) = f j by simp [swF]]; exact h2 j q (by omega) hqi hq1
      · rw [show swF f j p = f p by simp only [swF]; rw [if_neg hp, if_neg hp1]]; exact key hq1
theorem inner_end {f : Nat → Int} {i j : Nat} (h : InnerOK f i j) (hend : j = 0 ∨ ∃ k, j = k + 1 ∧ ¬ f j < f k) : ∀ p q, p < q → q ≤ i → f p ≤ f q := by
  intro p q hpq hqi
  by_cases hq : q = j
  · subst hq
    rcases hend with h0 | ⟨k, rfl, hk⟩
    · omega
    · by_cases hp : p = k
      · subst hp; omega
      · have := h.2 p k (by omega) (by omega) (by omega); omega
  · exact h.2 p q hpq hqi hq
theorem r1_put' {f f' : Nat → Int} {n i : Nat} (hi : i < n) (hne : ∀ j, j < n → j ≠ i → f' j = f j) : splice (avR (r1 f) n) i [.int .i64 (f' i)] = avR (r1 f') n := by
  have := (plain_r1 f).put (plain_r1 f') (n := n) (i := i) (c := 0) (xs := [.int .i64 (f' i)]) hi (by simp) rfl (fun j h1 h2 => by simp only [r1, hne j h1 h2])
  simpa using this
theorem rdS {H : Heap} {id n : Nat} {f : Nat → Int} (hid : id < H.length) {j : Nat} (hj : j < n) : rd (H.set id (.cells (avR (r1 f) n) true)) id j 1 = some [.int .i64 (f j)] := by
  unfold rd
  rw [List.getElem?_set_self hid]
  simp only [(plain_r1 f).length]
  rw [if_pos (by omega)]
  simpa [r1] using (plain_r1 f).part (n := n) (i := j) (c := 0) (m := 1) hj (by omega)
theorem wrS {H : Heap} {id n : Nat} {f f' : Nat → Int} (hid : id < H.length) {j : Nat} (hj : j < n) (hne : ∀ i, i < n → i ≠ j → f' i = f i) :
    wr (H.set id (.cells (avR (r1 f) n) true)) id j [.int .i64 (f' j)] = some (H.set id (.cells (avR (r1 f') n) true)) := by
  unfold wr
  rw [List.getElem?_set_self hid]
  simp only [(plain_r1 f).length]
  rw [if_pos (by simp; omega), List.set_set, r1_put' hj hne]

theorem c_insort (H : Heap) (id n : Nat) (ex : Bool) (k f : Nat → Int) (hh : H[id]? = some (.cells (avR (r1 f) n) true)) (hn : n ≤ 1000) (hk : ∀ i j, i < j → j < n → k i < k j) (ho : Ord n k f) :
    ACalls Tryz.prog F.slices_insertionSortOrdered_int [.slice id 0 n 1 ex, .int .i64 0, .int .i64 n] H (fun _ h' => h' = H.set id (.cells (avR (r1 k) n) true)) := by
  refine acalls_of ok_slices_insertionSortOrdered_int rfl fun hcl => ?_
  unfold ac_slices_insertionSortOrdered_int
  simp only [argsT, Nat.zero_add, Nat.reduceAdd]
  have hid : id < H.length := (List.getElem?_eq_some_iff.1 hh).1
  have hset : H.set id (.cells (avR (r1 f) n) true) = H := by
    obtain ⟨h1, h2⟩ := List.getElem?_eq_some_iff.1 hh
    rw [← h2]; exact List.set_getElem_self h1
  have chg : ∀ g : Nat → Int, Changed H (H.set id (.cells (avR (r1 g) n) true)) := fun g => chg_set H id true ((plain_r1 g).plain n)
  repeat (first|(with_reducible first|apply X1|apply X2|apply X6|apply X8)|((with_reducible apply e_end);(simp;exact Red.rfl))|((with_reducible apply O1);rfl;(simp (disch:=omega);exact Red.rfl);exact Red.rfl;(focus (first|(simp;done)|omega|(simp;omega)))))
  refine e_loop (ι := { x : Nat × (Nat → Int) // 1 ≤ x.1 ∧ (x.1 ≤ n ∨ x.1 = 1) ∧ Ord n k x.2 ∧ ∀ p q, p < q → q < x.1 → q < n → x.2 p ≤ x.2 q })
    (fun x => [(0, .slice id 0 n 1 ex), (1, .int .i64 0), (2, .int .i64 n), (6, .int .i64 x.1.1)]) (fun x => H.set id (.cells (avR (r1 x.1.2) n) true)) (fun x => n + 1 - x.1.1)
    ⟨(1, f), by simp, by simp, ho, fun p q h1 h2 _ => by simp only at h2; omega⟩ ?_ ?_
  · exact .inl (by dsimp only; rw [hset]; rfl)
  · rintro ⟨⟨i, g⟩, hi1, hi2, hog, hsg⟩
    dsimp only at hi1 hi2 hog hsg ⊢
    by_cases hlt : i < n
    · have hlt2 : (i : Int) < n := by omega
      repeat (first|(with_reducible first|apply X1|apply X2|apply X5|apply X6|apply X8)|((with_reducible apply e_end);(simp;exact Red.rfl))|((with_reducible apply O1);rfl;(simp (disch:=omega) [hlt, hlt2];exact Red.rfl);exact Red.rfl;(focus (first|(simp;done)|omega|(simp;omega))))|((with_reducible apply Z9);(simp (disch:=omega) [hlt, hlt2];exact Red.rfl)))
      refine e_loop (ι := { x : Nat × (Nat → Int) // InnerOK x.2 i x.1 ∧ Ord n k x.2 })
        (fun x => [(0, .slice id 0 n 1 ex), (1, .int .i64 0), (2, .int .i64 n), (6, .int .i64 i), (7, .int .i64 x.1.1)]) (fun x => H.set id (.cells (avR (r1 x.1.2) n) true)) (fun x => x.1.1)
        ⟨(i, g), ⟨Nat.le_refl _, fun p q h1 h2 h3 => hsg p q h1 (by omega) (by omega)⟩, hog⟩ ?_ ?_
      · exact .inl rfl
      · rintro ⟨⟨j, f1⟩, hin, hof⟩
        dsimp only at hin hof ⊢
        cases j with
        | zero =>
          repeat (first|(with_reducible first|apply X1|apply X2|apply X4|apply X8|apply Y1|apply Y2|apply Y4|apply Y6|apply Y9)|((with_reducible first|apply e_end|apply d_end);(simp;exact Red.rfl))|((first|((with_reducible apply O1);rfl)|((with_reducible apply P1);rfl));(simp (disch:=omega);exact Red.rfl);exact Red.rfl;(focus (first|(simp;done)|omega|(simp;omega))))|((with_reducible apply Z5);(simp (disch:=omega);exact Red.rfl))|((with_reducible apply W3);(simp (disch:=omega);exact Red.rfl)))
          have := inner_end hin (.inl rfl)
          exact q_again ⟨(i + 1, f1), by simp only; omega, by simp only; omega, hof, fun p q h1 h2 _ => this p q h1 (by simp only at h2; omega)⟩ (by dsimp only; omega) (.inl rfl)
        | succ a =>
          have ha : a + 1 < n := by have := hin.1; omega
          have ha2 : (a : Int) + 1 < n := by omega
          have ha3 : (a : Int) < n := by omega
          have ha4 : a < n := by omega
          have ha5 : (0 : Int) < (a : Int) + 1 := by omega
          have rd0 := rdS (f := f1) (n := n) hid ha
          have rd1 := rdS (f := f1) (n := n) hid ha4
          repeat (first|(with_reducible first|apply X1|apply Y9)|((first|((with_reducible apply P1);rfl)|((with_reducible apply P2);rfl));(simp (disch:=omega) [ha, ha2, ha3, ha4, ha5, rd0, rd1];exact Red.rfl);exact Red.rfl;(focus (first|(simp;done)|omega|(simp;omega))))|((with_reducible apply Z8);(simp (disch:=omega) [ha, ha2, ha3, ha4, ha5, rd0, rd1];exact Red.rfl)))
          (with_reducible apply d_call); (simp; exact Red.rfl); exact c_Less _ _ _; (focus (first | (simp; done) | (simp; omega)))
          by_cases hless : f1 (a + 1) < f1 a
          · have w1 : wr (H.set id (.cells (avR (r1 f1) n) true)) id (a + 1) [.int .i64 (f1 a)] = some (H.set id (.cells (avR (r1 (fun j => if j = a + 1 then f1 a else f1 j)) n) true)) := by
              have := wrS (f := f1) (f' := fun j => if j = a + 1 then f1 a else f1 j) (n := n) hid ha (fun j _ hj => by simp [hj])
              simpa using this
            have w2 : wr (H.set id (.cells (avR (r1 (fun j => if j = a + 1 then f1 a else f1 j)) n) true)) id a [.int .i64 (f1 (a + 1))] = some (H.set id (.cells (avR (r1 (swF f1 a)) n) true)) := by
              have := wrS (f := fun j => if j = a + 1 then f1 a else f1 j) (f' := swF f1 a) (n := n) hid ha4 (fun j _ hj => by simp [swF, hj])
              simpa [swF] using this
            repeat (first|(with_reducible first|apply X1|apply X2|apply X5|apply X6|apply X8|apply Y2|apply Y9)|((with_reducible first|apply e_end|apply d_end);(simp;exact Red.rfl))|((first|((with_reducible apply O1);rfl)|((with_reducible apply P1);rfl)|((with_reducible apply P2);rfl)|((with_reducible apply P4);rfl));(simp (disch:=omega) [hless, ha, ha2, ha3, ha4, ha5, rd0, rd1, w1, w2];exact Red.rfl);exact Red.rfl;(focus (first|(simp;done)|omega|(simp;omega))))|((with_reducible apply Z9);(simp (disch:=omega) [hless, ha, ha2, ha3, ha4, ha5, rd0, rd1, w1, w2];exact Red.rfl)))
            exact q_again ⟨(a, swF f1 a), inner_step hin hless, hof.sw ha⟩ (by dsimp only; omega) (.inl rfl)
          · repeat (first|(with_reducible first|apply X2|apply X4|apply X8|apply Y1|apply Y2|apply Y4|apply Y6)|((with_reducible first|apply e_end|apply d_end);(simp;exact Red.rfl))|((first|((with_reducible apply O1);rfl)|((with_reducible apply P1);rfl));(simp (disch:=omega) [hless];exact Red.rfl);exact Red.rfl;(focus (first|(simp;done)|omega|(simp;omega))))|((with_reducible apply W3);(simp (disch:=omega) [hless];exact Red.rfl)))
            have := inner_end hin (.inr ⟨a, rfl, hless⟩)
            exact q_again ⟨(i + 1, f1), by simp only; omega, by simp only; omega, hof, fun p q h1 h2 _ => this p q h1 (by simp only at h2; omega)⟩ (by dsimp only; omega) (.inl rfl)
    · repeat (first|(with_reducible first|apply X1|apply X2|apply X4|apply X8|apply Y1|apply Y4|apply Y6)|((with_reducible apply e_end);(simp;exact Red.rfl))|((with_reducible apply O1);rfl;(simp (disch:=omega) [hlt];exact Red.rfl);exact Red.rfl;(focus (first|(simp;done)|omega|(simp;omega))))|((with_reducible apply W3);(simp (disch:=omega) [hlt];exact Red.rfl)))
      have e : avR (r1 g) n = avR (r1 k) n := avR_congr fun j hj => by
        have := hog.eq hk (fun p q h1 h2 => hsg p q h1 (by omega) h2) j hj
        simp only [r1, this]
      rw [e]
      exact q_dropC0 (v := .tuple []) (chg k) (.inl rfl) (by simp; exact Red.rfl) (by simp) rfl

theorem c_pdq (H : Heap) (id n : Nat) (ex : Bool) (lim : Int) (k f : Nat → Int) (hh : H[id]? = some (.cells (avR (r1 f) n) true)) (hn : n ≤ 12) (hk : ∀ i j, i < j → j < n → k i < k j) (ho : Ord n k f) :
    ACalls Tryz.prog F.slices_pdqsortOrdered_int [.slice id 0 n 1 ex, .int .i64 0, .int .i64 n, .int .i64 lim] H (fun _ h' => h' = H.set id (.cells (avR (r1 k) n) true)) := by
  refine acalls_of ok_slices_pdqsortOrdered_int rfl fun hcl => ?_
  unfold ac_slices_pdqsortOrdered_int
  simp only [argsT, Nat.zero_add, Nat.reduceAdd]
  have hid : id < H.length := (List.getElem?_eq_some_iff.1 hh).1
  have hn2 : (n : Int) ≤ 12 := by omega
  repeat (first|(with_reducible first|apply X1|apply X2|apply X6|apply X8)|((with_reducible apply e_end);(simp;exact Red.rfl))|((with_reducible apply O1);rfl;(simp (disch:=omega);exact Red.rfl);exact Red.rfl;(focus (first|(simp;done)|omega|(simp;omega)))))
  refine e_loop (ι := Unit) (fun _ => [(0, .slice id 0 n 1 ex), (1, .int .i64 0), (2, .int .i64 n), (3, .int .i64 lim), (8, .bool true), (9, .bool true)]) (fun _ => H) (fun _ => 0) () ?_ ?_
  · exact .inl rfl
  · rintro ⟨⟩
    repeat (first|(with_reducible first|apply X1|apply X2|apply X6|apply X8)|((with_reducible apply e_end);(simp;exact Red.rfl))|((with_reducible apply O1);rfl;(simp (disch:=omega) [hn2];exact Red.rfl);exact Red.rfl;(focus (first|(simp;done)|omega|(simp;omega))))|((with_reducible apply Z9);(simp (disch:=omega) [hn2];exact Red.rfl)))
    (with_reducible apply e_call); (simp; exact Red.rfl); exact c_insort _ id n ex k f hh (by omega) hk ho
    rintro _ _ rfl
    repeat (first|(with_reducible first|apply X3|apply X8|apply X9|apply Y3|apply Y5)|((with_reducible apply e_end);(simp;exact Red.rfl)))
    exact q_dropC0 (v := .tuple []) (chg_set H id true ((plain_r1 k).plain n)) (.inr rfl) (by simp; exact Red.rfl) (by simp) rfl
theorem c_Sort (H : Heap) (id n : Nat) (ex : Bool) (k f : Nat → Int) (hh : H[id]? = some (.cells (avR (r1 f) n) true)) (hn : n ≤ 12) (hk : ∀ i j, i < j → j < n → k i < k j) (ho : Ord n k f) :
    ACalls Tryz.prog F.slices_Sort_int_int [.slice id 0 n 1 ex] H (fun _ h' => h' = H.set id (.cells (avR (r1 k) n) true)) := by
  refine acalls_of ok_slices_Sort_int_int rfl fun hcl => ?_
  unfold ac_slices_Sort_int_int
  simp only [argsT, Nat.zero_add, Nat.reduceAdd]
  have hid : id < H.length := (List.getElem?_eq_some_iff.1 hh).1
  have hw : IntKind.u64.wrap (n : Int) = n := by simp [IntKind.wrap, IntKind.bits, IntKind.signed]; omega
  repeat (first|(with_reducible first|apply X1|apply X2|apply X8)|((with_reducible apply e_end);(simp;exact Red.rfl))|((with_reducible apply O1);rfl;(simp (disch:=omega) [hw];exact Red.rfl);exact Red.rfl;(focus (first|(simp;done)|omega|(simp;omega)))))
  (with_reducible apply e_call); (simp; exact Red.rfl); exact c_Len _ n hn
  rintro _ h2 ⟨he, lim, rfl⟩
  rw [he]
  clear he
  skip
  (with_reducible apply e_call); (simp; exact Red.rfl); exact c_pdq _ id n ex lim k f hh hn hk ho
  rintro _ _ rfl
  repeat ((with_reducible apply e_end);(simp;exact Red.rfl))
  exact q_dropC0 (v := .tuple []) (chg_set H id true ((plain_r1 k).plain n)) (.inl rfl) (by simp; exact Red.rfl) (by simp) rfl
theorem leftA_mem {seen : List Nat} : ∀ {es : List (AV × AV)} {bs : List Nat} {y : (AV × AV) × Nat}, y ∈ leftA es bs seen → ∃ p : Nat, es[p]? = some y.1 ∧ bs[p]? = some y.2 ∧ y.2 ∉ seen
  | [], _, y, h => by simp [leftA] at h
  | _ :: _, [], y, h => by simp [leftA] at h
  | e :: es, b :: bs, y, h => by
    simp only [leftA] at h
    split at h
    · obtain ⟨p, h1, h2, h3⟩ := leftA_mem h
      exact ⟨p + 1, by simpa using h1, by simpa using h2, h3⟩
    · rename_i hb
      rcases List.mem_cons.1 h with rfl | h
      · exact ⟨0, rfl, rfl, by simpa using hb⟩
      · obtain ⟨p, h1, h2, h3⟩ := leftA_mem h
        exact ⟨p + 1, by simpa using h1, by simpa using h2, h3⟩
theorem leftA_nil {seen : List Nat} : ∀ {es : List (AV × AV)} {bs : List Nat}, es.length = bs.length → leftA es bs seen = [] → ∀ b ∈ bs, b ∈ seen
  | [], [], _, _, b, hb => by cases hb
  | e :: es, b :: bs, hl, h, x, hx => by
    simp only [leftA] at h
    split at h
    · rename_i hb
      rcases List.mem_cons.1 hx with rfl | hx
      · simpa using hb
      · exact leftA_nil (by simpa using hl) h x hx
    · cases h
  | [], _ :: _, hl, _, _, _ => by simp at hl
  | _ :: _, [], hl, _, _, _ => by simp at hl
theorem entryA_get : ∀ {es : List (AV × AV)} {bs : List Nat} {p b : Nat} {e : AV × AV}, bs.Nodup → es[p]? = some e → bs[p]? = some b → entryA es bs b = some e
  | [], _, p, b, e, _, h, _ => by simp at h
  | _ :: _, [], p, b, e, _, _, h => by simp at h
  | e0 :: es, b0 :: bs, 0, b, e, _, h1, h2 => by
    simp at h1 h2; subst h1; subst h2; simp [entryA]
  | e0 :: es, b0 :: bs, p + 1, b, e, hd, h1, h2 => by
    have hm : b ∈ bs := by
      simp only [List.getElem?_cons_succ] at h2
      exact List.mem_of_getElem? h2
    have hne : ¬ b0 = b := by
      rintro rfl
      exact (List.nodup_cons.1 hd).1 hm
    simp only [entryA, hne, if_false]
    exact entryA_get (List.nodup_cons.1 hd).2 (by simpa using h1) (by simpa using h2)
theorem nodup_len : ∀ {A B : List Nat}, A.Nodup → (∀ x ∈ A, x ∈ B) → A.length ≤ B.length
  | [], B, _, _ => Nat.zero_le _
  | a :: A, B, hd, hs => by
    have ha := hs a (by simp)
    have h1 := List.nodup_cons.1 hd
    have h2 : A.length ≤ (B.erase a).length := nodup_len h1.2 fun x hx => by
      have hne : x ≠ a := by rintro rfl; exact h1.1 hx
      exact (List.mem_erase_of_ne hne).2 (hs x (List.mem_cons_of_mem _ hx))
    rw [List.length_erase_of_mem ha] at h2
    have := List.length_pos_of_mem ha
    simp only [List.length_cons]; omega
theorem nd_inj {A : List Nat} (h : A.Nodup) {i j : Nat} (hi : i < A.length) (hj : j < A.length) (he : A[i] = A[j]) : i = j := by
  have hp := List.pairwise_iff_getElem.1 h
  rcases Nat.lt_trichotomy i j with h1 | h1 | h1
  · exact absurd he (hp _ _ hi hj h1)
  · exact h1
  · exact absurd he.symm (hp _ _ hj hi h1)
theorem den_entry {i : AOpd} {ev : AOpd → AV} {h : Heap} {id m since c b : Nat} {seen bs : List Nat} {es : List (AV × AV)} {p : AV × AV} (hi : ev i = .ptr id 0) (hob : h[id]? = some (.other (.iter (some m) since seen c))) (hl : seen.getLast? = some b)
    (hm : h[m]? = some (.other (.map es bs c))) (he : entryA es bs b = some p) : (AOp.entryM i).den ev h = .ok True (.tuple [p.1, p.2]) h := by
  simp only [AOp.den, AOp.fx, hi, hob, hl, hm, he, if_true]

theorem den_rangeM {m : AOpd} {ev : AOpd → AV} {h h2 : Heap} {id N c : Nat} {es : List (AV × AV)} {bs : List Nat} (hx : ev m = .map id) (hm : h[id]? = some (.other (.map es bs c))) (hl : h.length = N) (h2e : h ++ [.other (.iter (some id) c [] c)] = h2) :
    (AOp.rangeM m).den ev h = .ok True (.ptr N 0) h2 := by
  simp only [AOp.den, AOp.fx, hx, hm, hl, h2e]

structure KeyMap (H : Heap) (mid : Nat) (es : List (AV × AV)) (bs : List Nat) (c n : Nat) (k : Nat → Int) : Prop where
  hm : H[mid]? = some (.other (.map es bs c))
  le : es.length = n
  lb : bs.length = n
  nd : bs.Nodup
  lt : ∀ b ∈ bs, b < c
  key : ∀ p, p < n → ∃ v, es[p]? = some (.int .i64 (k p), v)
theorem KeyMap.app {H : Heap} {mid : Nat} {es : List (AV × AV)} {bs : List Nat} {c n : Nat} {k : Nat → Int} (h : KeyMap H mid es bs c n k) (G : Heap) : (H ++ G)[mid]? = some (.other (.map es bs c)) := by
  rw [List.getElem?_append_left (List.getElem?_eq_some_iff.1 h.hm).1]; exact h.hm
def keyF (k : Nat → Int) (ps : List Nat) (j : Nat) : Int := k (ps.getD j 0)
def stampF (bs : List Nat) (ps : List Nat) : List Nat := ps.map fun p => bs.getD p 0
theorem keyF_snoc (k : Nat → Int) (ps : List Nat) (p : Nat) : avR (r1 (keyF k ps)) ps.length ++ [.int .i64 (k p)] = avR (r1 (keyF k (ps ++ [p]))) (ps.length + 1) := by
  rw [avR_succ]
  congr 1
  · exact avR_congr fun j hj => by simp only [r1, keyF, List.getD_eq_getElem?_getD]; rw [List.getElem?_append_left hj]
  · simp [r1, keyF, List.getD_eq_getElem?_getD]
theorem keys_ord {n : Nat} {k : Nat → Int} {ps bs : List Nat} (hb : bs.length = n) (hnd : bs.Nodup) (h1 : ps.Nodup) (h2 : ∀ p ∈ ps, p < n) (h3 : ∀ b ∈ bs, b ∈ stampF bs ps) : ps.length = n ∧ Ord n k (keyF k ps) := by
  have inj : ∀ p q, p < n → q < n → bs.getD p 0 = bs.getD q 0 → p = q := by
    intro p q hp hq he
    rw [List.getD_eq_getElem?_getD, List.getD_eq_getElem?_getD, List.getElem?_eq_getElem (by omega), List.getElem?_eq_getElem (by omega)] at he
    exact nd_inj hnd _ _ he
  have all : ∀ p, p < n → p ∈ ps := by
    intro p hp
    have hmem : bs.getD p 0 ∈ bs := by
      rw [List.getD_eq_getElem?_getD, List.getElem?_eq_getElem (by omega)]; exact List.getElem_mem _
    obtain ⟨q, hq, he⟩ := List.mem_map.1 (h3 _ hmem)
    rw [← inj q p (h2 q hq) hp he]; exact hq
  have l1 : ps.length ≤ n := by
    have := nodup_len h1 (B := List.range n) fun x hx => List.mem_range.2 (h2 x hx)
    simpa using this
  have l2 : n ≤ ps.length := by
    have := nodup_len (A := List.range n) List.nodup_range (B := ps) fun x hx => all x (List.mem_range.1 hx)
    simpa using this
  have hl : ps.length = n := by omega
  refine ⟨hl, fun j => ps.getD j 0, fun j hj => ?_, fun i j hi hj he => ?_, fun j _ => rfl⟩
  · dsimp only; rw [List.getD_eq_getElem?_getD, List.getElem?_eq_getElem (by omega)]; exact h2 _ (List.getElem_mem _)
  · dsimp only at he
    rw [List.getD_eq_getElem?_getD, List.getD_eq_getElem?_getD, List.getElem?_eq_getElem (by omega), List.getElem?_eq_getElem (by omega)] at he
    exact nd_inj h1 _ _ he

def kfn (cid : Nat) : AV := .fn (.func F.maps_Keys_map_int_int_int_int_1) [] [.ptr cid 0]
def tK (H : Heap) (cid : Nat) : List (Nat × AV) := [(2, .ptr H.length 0), (4, .nilslice), (6, kfn cid)]
def kA : AC := .ops [⟨some 5, .mov (.t 7), none⟩] (some [2, 5])
def kB : AC := .block 1 (.ops [⟨some 8, .load1 (.t 2), none⟩, ⟨some 9, .mov (.t 5), none⟩, ⟨some 10, .buildSlice [.int .i64 0] [(0, 1, .t 9)] 1 1, none⟩, ⟨some 11, .append (.t 8) (.t 10) 1 8, none⟩, ⟨none, .store (.t 2) 1 (.t 11), none⟩] (some []))
def kL (H : Heap) (cid : Nat) : AObj := .other (.loop (tK H cid) [7] kA kB .ready)

theorem y_k0 (H : Heap) (cid : Nat) (it : AObj) (x : Int) : AYields Tryz.prog (H.length + 1) [.int .i64 x] (H ++ [.cells [.nilslice] true, kL H cid, it])
    (fun v h' => v = .bool true ∧ h' = H ++ [.cells [.slice (H.length + 3) 0 1 1 false] true, kL H cid, it, .cells [.int .i64 x] true]) := by
  refine y_of (t := tK H cid) (ps := [7]) (a := kA) (b := kB) (by rw [at_new]; rfl) rfl fun hcl => ?_
  unfold kA
  simp only [roundT, tK, List.zip_cons_cons, List.zip_nil_left, List.foldl_cons, List.foldl_nil, List.zip_nil_right]
  repeat (first|(with_reducible apply X2)|((with_reducible apply e_end);(simp;exact Red.rfl))|((with_reducible apply O1);rfl;(simp (disch:=omega);exact Red.rfl);exact Red.rfl;(focus (first|(simp;done)|omega|(simp;omega)))))
  refine q_begin (tt := tK H cid) (by rw [at_new]; exact Red.rfl) (by rw [set_new]; exact Red.rfl) ?_
  unfold kB
  repeat (first|(with_reducible first|apply X2|apply X6|apply Y2)|((with_reducible apply e_end);(simp;exact Red.rfl))|((first|((with_reducible apply O1);rfl)|((with_reducible apply O2);rfl));(simp (disch:=omega) [at_new0, at_new, set_new0, set_new];exact Red.rfl);exact Red.rfl;(focus (first|(simp;done)|omega|(simp;omega)))))
  refine q_end (tt := tK H cid) (by rw [at_new]; exact Red.rfl) (by rw [set_new]; exact Red.rfl) ?_ ⟨rfl, rfl⟩
  exact .inr <| le_to [0, 1, 2, 4] (by simp [headIs]) (by simp [KeepAll, sh, AObj.ren, AV.ren, renL, kL, kB]) (by simp)
theorem y_k1 (H : Heap) (cid : Nat) (it : AObj) (x : Int) (n : Nat) (rs : List AV) (hr : Plain rs) (hn : rs.length = n) (hn2 : n < 1000000) : AYields Tryz.prog (H.length + 1) [.int .i64 x] (H ++ [.cells [.slice (H.length + 3) 0 n 1 false] true, kL H cid, it, .cells rs true])
    (fun v h' => v = .bool true ∧ h' = H ++ [.cells [.slice (H.length + 4) 0 (n + 1) 1 false] true, kL H cid, it, .dead, .cells (rs ++ [.int .i64 x]) true]) := by
  refine y_of (t := tK H cid) (ps := [7]) (a := kA) (b := kB) (by rw [at_new]; rfl) rfl fun hcl => ?_
  unfold kA
  simp only [roundT, tK, List.zip_cons_cons, List.zip_nil_left, List.foldl_cons, List.foldl_nil, List.zip_nil_right]
  repeat (first|(with_reducible apply X2)|((with_reducible apply e_end);(simp;exact Red.rfl))|((with_reducible apply O1);rfl;(simp (disch:=omega);exact Red.rfl);exact Red.rfl;(focus (first|(simp;done)|omega|(simp;omega)))))
  refine q_begin (tt := tK H cid) (by rw [at_new]; exact Red.rfl) (by rw [set_new]; exact Red.rfl) ?_
  unfold kB
  repeat (first|(with_reducible first|apply X2|apply X6|apply Y2)|((with_reducible apply e_end);(simp;exact Red.rfl))|((first|((with_reducible apply O1);rfl)|((with_reducible apply O2);rfl));(simp (disch:=omega) [at_new0, at_new, set_new0, set_new, hn, hr.scal, take_all hn];exact Red.rfl);exact Red.rfl;(focus (first|(simp;done)|omega|(simp;omega)))))
  refine q_end (tt := tK H cid) (by rw [at_new]; exact Red.rfl) (by rw [set_new]; exact Red.rfl) ?_ ⟨rfl, rfl⟩
  exact .inr <| le_to [0, 1, 2, 3, 5] (by simp [headIs]) (by simp [KeepAll, sh, AObj.ren, AV.ren, renL, kL, kB, scL_app, renL_app, hr.sc, hr.ren]) (by simp)

def kS (H : Heap) (cid mid c : Nat) (bs : List Nat) (k : Nat → Int) (ps : List Nat) : Heap :=
  match ps with
  | [] => H ++ [.cells [.nilslice] true, kL H cid, .other (.iter (some mid) c [] c)]
  | p :: r => H ++ [.cells [.slice (H.length + 3) 0 (p :: r).length 1 false] true, kL H cid, .other (.iter (some mid) c (stampF bs (p :: r)) c), .cells (avR (r1 (keyF k (p :: r))) (p :: r).length) true]
def kR (H : Heap) (cid n : Nat) (f : Nat → Int) : Heap :=
  if n = 0 then H ++ [.cells [.nilslice] true, kL H cid] else H ++ [.cells [.slice (H.length + 2) 0 n 1 false] true, kL H cid, .cells (avR (r1 f) n) true]

theorem c_Keys1 (H : Heap) (cid mid c n : Nat) (es : List (AV × AV)) (bs : List Nat) (k : Nat → Int) (hM : KeyMap H mid es bs c n k) (hc : rd H cid 0 1 = some [.map mid]) (hn : n ≤ 1000) :
    ACalls Tryz.prog F.maps_Keys_map_int_int_int_int_1 [.yield (H.length + 1), .ptr cid 0] (H ++ [.cells [.nilslice] true, kL H cid]) (fun _ h' => ∃ f, Ord n k f ∧ h' = kR H cid n f) := by
  refine acalls_of ok_maps_Keys_map_int_int_int_int_1 rfl fun hcl => ?_
  unfold ac_maps_Keys_map_int_int_int_int_1
  simp only [argsT, Nat.zero_add, Nat.reduceAdd]
  have hcid := rd_lt hc
  have hmid : mid < H.length := (List.getElem?_eq_some_iff.1 hM.hm).1
  repeat (first|(with_reducible first|apply X1|apply X2)|((with_reducible apply O1);rfl;(simp (disch:=omega) [rd_old _ hcid, hc, hM.app];exact Red.rfl);exact Red.rfl;(focus (first|(simp;done)|omega|(simp;omega)))))
  refine e_op (op := .rangeM _) rfl (den_rangeM (N := H.length + 2) (h2 := H ++ [.cells [.nilslice] true, kL H cid, .other (.iter (some mid) c [] c)]) rfl (hM.app _) (by simp) (by simp)) Red.rfl trivial ?_
  repeat (first|(with_reducible first|apply X6|apply X8)|((with_reducible apply e_end);(simp;exact Red.rfl)))
  refine e_loop (ι := { ps : List Nat // ps.Nodup ∧ ∀ p ∈ ps, p < n })
    (fun _ => [(0, .yield (H.length + 1)), (5, .ptr (H.length + 2) 0)]) (fun ps => kS H cid mid c bs k ps.1) (fun ps => n - ps.1.length) ⟨[], by simp⟩ ?_ ?_
  · exact .inl rfl
  · rintro ⟨ps, hnd, hlt⟩
    dsimp only
    have stNot : ∀ y ∈ leftA es bs (stampF bs ps), ∃ p, p < n ∧ p ∉ ps ∧ (∃ v, y.1 = (.int .i64 (k p), v)) ∧ es[p]? = some y.1 ∧ bs[p]? = some y.2 ∧ bs.getD p 0 = y.2 := by
      intro y hy
      obtain ⟨p, h1, h2, h3⟩ := leftA_mem hy
      have hp : p < n := by have := (List.getElem?_eq_some_iff.1 h1).1; have := hM.le; omega
      have hb : bs.getD p 0 = y.2 := by rw [List.getD_eq_getElem?_getD, h2]; rfl
      refine ⟨p, hp, fun hin => h3 ?_, ?_, h1, h2, hb⟩
      · rw [← hb]; exact List.mem_map.2 ⟨p, hin, rfl⟩
      · obtain ⟨v, hv⟩ := hM.key p hp
        rw [hv] at h1; exact ⟨v, (Option.some.inj h1).symm⟩
    have done : leftA es bs (stampF bs ps) = [] → ps.length = n ∧ Ord n k (keyF k ps) := fun h =>
      keys_ord hM.lb hM.nd hnd hlt (leftA_nil (by rw [hM.le, hM.lb]) h)
    have snoc : ∀ p, p < n → p ∉ ps → (ps ++ [p]).Nodup ∧ (∀ q ∈ ps ++ [p], q < n) ∧ ps.length < n := by
      intro p hp hpn
      have h1 : (ps ++ [p]).Nodup := by
        rw [List.nodup_append]
        exact ⟨hnd, by simp, fun a ha b hb => by simp at hb; subst hb; rintro rfl; exact hpn ha⟩
      have h2 : ∀ q ∈ ps ++ [p], q < n := by
        intro q hq
        rcases List.mem_append.1 hq with h | h
        · exact hlt q h
        · simp at h; omega
      have := nodup_len h1 (B := List.range n) fun x hx => List.mem_range.2 (h2 x hx)
      simp at this
      exact ⟨h1, h2, by omega⟩
    cases ps with
    | nil =>
      simp only [kS]
      repeat (with_reducible first|apply X1|apply X2)
      refine e_next (i := .t 5) (id := H.length + 2) (m := mid) (es := es) (bs := bs) (c := c) (since := c) (seen := []) (last := c) ?_ ?_ ?_ (.inl rfl) (fun h0 => ?_) (fun y hy => ?_)
      · exact Red.rfl
      · rw [at_new]; exact Red.rfl
      · exact hM.app _
      · repeat (first|(with_reducible first|apply X1|apply X4|apply X8|apply Y1|apply Y4|apply Y6)|((with_reducible apply e_end);(simp;exact Red.rfl))|((with_reducible apply O1);rfl;(simp (disch:=omega);exact Red.rfl);exact Red.rfl;(focus (first|(simp;done)|omega|(simp;omega))))|((with_reducible apply W3);(simp (disch:=omega);exact Red.rfl)))
        obtain ⟨hn0, ho⟩ := done h0
        simp only [List.length_nil] at hn0
        refine q_post (v' := .tuple []) (.inl rfl) (by simp; exact Red.rfl) (le_to (G' := [.cells [.nilslice] true, kL H cid]) [0, 1] (by simp [headIs]) (by simp [KeepAll]) (by simp [AV.ren, renL])) ⟨_, ho, ?_⟩
        unfold kR; rw [if_pos hn0.symm]
      · obtain ⟨p, hp, hpn, ⟨v, hv⟩, he, hb, hbd⟩ := stNot y hy
        obtain ⟨s1, s2, s3⟩ := snoc p hp hpn
        refine ⟨hM.lt _ (List.mem_of_getElem? hb), ?_⟩
        rw [hv, set_new]
        repeat (first|(with_reducible first|apply X1|apply X2|apply X5|apply X6|apply X8)|((with_reducible apply e_end);(simp;exact Red.rfl))|((with_reducible apply O1);rfl;(simp (disch:=omega);exact Red.rfl);exact Red.rfl;(focus (first|(simp;done)|omega|(simp;omega))))|((with_reducible apply Z9);(simp (disch:=omega);exact Red.rfl)))
        refine e_op (op := .entryM _) rfl (den_entry (id := H.length + 2) (m := mid) (since := c) (c := c) (seen := [y.2]) (es := es) (bs := bs) (b := y.2) (p := y.1) rfl (by rw [at_new]; rfl) rfl (hM.app _) (entryA_get hM.nd he hb)) Red.rfl trivial ?_
        rw [hv]
        repeat (first|(with_reducible first|apply X1|apply X2|apply X8)|((with_reducible apply e_end);(simp;exact Red.rfl))|((with_reducible apply O1);rfl;(simp (disch:=omega);exact Red.rfl);exact Red.rfl;(focus (first|(simp;done)|omega|(simp;omega)))))
        (with_reducible apply e_callY); (simp; exact Red.rfl); (simp; exact Red.rfl); exact y_k0 _ _ _ _
        rintro _ _ ⟨rfl, rfl⟩
        have e1 : stampF bs [p] = [y.2] := by simp [stampF]; simpa [List.getD_eq_getElem?_getD] using hbd
        have e2 : [AV.int .i64 (k p)] = avR (r1 (keyF k [p])) 1 := by simp [avR, r1, keyF]
        repeat (first|(with_reducible first|apply X5|apply X8|apply Y2)|((with_reducible apply e_end);(simp;exact Red.rfl))|((with_reducible apply O1);rfl;(simp (disch:=omega);exact Red.rfl);exact Red.rfl;(focus (first|(simp;done)|omega|(simp;omega))))|((with_reducible apply W3);(simp (disch:=omega);exact Red.rfl)))
        rw [e2]
        refine q_again ⟨[p], s1, s2⟩ (by simp only [List.length_nil, List.length_singleton]; omega) (.inr ?_)
        have plP := (plain_r1 (keyF k [p])).plain 1
        have := le_to (B := H) (X := [.cells [.nilslice] true, kL H cid]) (G := [.cells [.slice (H.length + 3) 0 1 1 false] true, kL H cid, .other (.iter (some mid) c [y.2] c), .cells (avR (r1 (keyF k [p])) 1) true])
          (G' := [.cells [.slice (H.length + 3) 0 1 1 false] true, kL H cid, .other (.iter (some mid) c [y.2] c), .cells (avR (r1 (keyF k [p])) 1) true])
          (t := [(0, .yield (H.length + 1)), (5, .ptr (H.length + 2) 0), (13, .bool false)]) (t' := [(0, .yield (H.length + 1)), (5, .ptr (H.length + 2) 0)]) [0, 1, 2, 3] (by simp [headIs])
          (by simp [KeepAll, sh, AObj.ren, AV.ren, renL, OObj.sc, OObj.ren, hmid, plP.sc, plP.ren]; omega) (by simp [sh, AV.ren])
        simp only [e1]; exact this
    | cons q r =>
      simp only [kS]
      have hq : q < n := hlt q (by simp)
      have hbq : bs.getD q 0 ∈ bs := by
        rw [List.getD_eq_getElem?_getD, List.getElem?_eq_getElem (by rw [hM.lb]; exact hq)]; exact List.getElem_mem _
      generalize hps : q :: r = ps at *
      have hpl : 0 < ps.length := by rw [← hps]; simp
      have pl := (plain_r1 (keyF k ps)).plain ps.length
      have lenL := (plain_r1 (keyF k ps)).length ps.length
      repeat (with_reducible first|apply X1|apply X2)
      refine e_next (i := .t 5) (id := H.length + 2) (m := mid) (es := es) (bs := bs) (c := c) (since := c) (seen := stampF bs ps) (last := c) ?_ ?_ ?_ (.inr ⟨_, hbq, hM.lt _ hbq⟩) (fun h0 => ?_) (fun y hy => ?_)
      · exact Red.rfl
      · rw [at_new]; exact Red.rfl
      · exact hM.app _
      · repeat (first|(with_reducible first|apply X1|apply X4|apply X8|apply Y1|apply Y4|apply Y6)|((with_reducible apply e_end);(simp;exact Red.rfl))|((with_reducible apply O1);rfl;(simp (disch:=omega);exact Red.rfl);exact Red.rfl;(focus (first|(simp;done)|omega|(simp;omega))))|((with_reducible apply W3);(simp (disch:=omega);exact Red.rfl)))
        obtain ⟨hn0, ho⟩ := done h0
        rw [hn0] at pl ⊢
        refine q_post (v' := .tuple []) (.inl rfl) (by simp; exact Red.rfl) (le_to (G' := [.cells [.slice (H.length + 2) 0 n 1 false] true, kL H cid, .cells (avR (r1 (keyF k ps)) n) true]) [0, 1, 3] (by simp [headIs]) (by simp [KeepAll, sh, AObj.ren, AV.ren, renL, pl.sc, pl.ren]) (by simp [AV.ren, renL])) ⟨_, ho, ?_⟩
        unfold kR; rw [if_neg (by omega)]
      · obtain ⟨p, hp, hpn, ⟨v, hv⟩, he, hb, hbd⟩ := stNot y hy
        obtain ⟨s1, s2, s3⟩ := snoc p hp hpn
        refine ⟨hM.lt _ (List.mem_of_getElem? hb), ?_⟩
        rw [hv, set_new]
        repeat (first|(with_reducible first|apply X1|apply X2|apply X5|apply X6|apply X8)|((with_reducible apply e_end);(simp;exact Red.rfl))|((with_reducible apply O1);rfl;(simp (disch:=omega);exact Red.rfl);exact Red.rfl;(focus (first|(simp;done)|omega|(simp;omega))))|((with_reducible apply Z9);(simp (disch:=omega);exact Red.rfl)))
        refine e_op (op := .entryM _) rfl (den_entry (id := H.length + 2) (m := mid) (since := c) (c := c) (seen := stampF bs ps ++ [y.2]) (es := es) (bs := bs) (b := y.2) (p := y.1) rfl (by rw [at_new]; rfl) (by simp) (hM.app _) (entryA_get hM.nd he hb)) Red.rfl trivial ?_
        rw [hv]
        repeat (first|(with_reducible first|apply X1|apply X2|apply X8)|((with_reducible apply e_end);(simp;exact Red.rfl))|((with_reducible apply O1);rfl;(simp (disch:=omega);exact Red.rfl);exact Red.rfl;(focus (first|(simp;done)|omega|(simp;omega)))))
        (with_reducible apply e_callY); (simp; exact Red.rfl); (simp; exact Red.rfl); exact y_k1 _ _ _ _ _ _ pl (by omega) (by omega)
        rintro _ _ ⟨rfl, rfl⟩
        repeat (first|(with_reducible first|apply X5|apply X8|apply Y2)|((with_reducible apply e_end);(simp;exact Red.rfl))|((with_reducible apply O1);rfl;(simp (disch:=omega);exact Red.rfl);exact Red.rfl;(focus (first|(simp;done)|omega|(simp;omega))))|((with_reducible apply W3);(simp (disch:=omega);exact Red.rfl)))
        rw [keyF_snoc]
        refine q_again ⟨ps ++ [p], s1, s2⟩ (by simp only [List.length_append, List.length_singleton]; omega) (.inr ?_)
        have plP := (plain_r1 (keyF k (ps ++ [p]))).plain (ps.length + 1)
        have e1 : stampF bs (ps ++ [p]) = stampF bs ps ++ [y.2] := by
          simp only [stampF, List.map_append, List.map_cons, List.map_nil, hbd]
        have eS : kS H cid mid c bs k (ps ++ [p]) = H ++ [.cells [.slice (H.length + 3) 0 (ps.length + 1) 1 false] true, kL H cid, .other (.iter (some mid) c (stampF bs ps ++ [y.2]) c), .cells (avR (r1 (keyF k (ps ++ [p]))) (ps.length + 1)) true] := by
          rw [← e1]
          generalize hz : ps ++ [p] = z
          have hzl : z.length = ps.length + 1 := by rw [← hz]; simp
          rw [← hzl]
          cases z with
          | nil => simp at hzl
          | cons _ _ => rfl
        have := le_to (B := H) (X := [.cells [.nilslice] true, kL H cid]) (G := [.cells [.slice (H.length + 4) 0 (ps.length + 1) 1 false] true, kL H cid, .other (.iter (some mid) c (stampF bs ps ++ [y.2]) c), .dead, .cells (avR (r1 (keyF k (ps ++ [p]))) (ps.length + 1)) true])
          (G' := [.cells [.slice (H.length + 3) 0 (ps.length + 1) 1 false] true, kL H cid, .other (.iter (some mid) c (stampF bs ps ++ [y.2]) c), .cells (avR (r1 (keyF k (ps ++ [p]))) (ps.length + 1)) true])
          (t := [(0, .yield (H.length + 1)), (5, .ptr (H.length + 2) 0), (13, .bool false)]) (t' := [(0, .yield (H.length + 1)), (5, .ptr (H.length + 2) 0)]) [0, 1, 2, 4] (by simp [headIs])
          (by simp [KeepAll, sh, AObj.ren, AV.ren, renL, OObj.sc, OObj.ren, hmid, plP.sc, plP.ren]; omega) (by simp [sh, AV.ren])
        rw [← eS] at this
        exact this
theorem c_insort0 (H : Heap) : ACalls Tryz.prog F.slices_insertionSortOrdered_int [.nilslice, .int .i64 0, .int .i64 0] H (fun _ h' => h' = H) := by
  refine acalls_of ok_slices_insertionSortOrdered_int rfl fun hcl => ?_
  unfold ac_slices_insertionSortOrdered_int
  simp only [argsT, Nat.zero_add, Nat.reduceAdd]
  repeat (first|(with_reducible first|apply X1|apply X2|apply X6|apply X8)|((with_reducible apply e_end);(simp;exact Red.rfl))|((with_reducible apply O1);rfl;(simp (disch:=omega);exact Red.rfl);exact Red.rfl;(focus (first|(simp;done)|omega|(simp;omega)))))
  refine e_loop (ι := Unit) (fun _ => [(0, .nilslice), (1, .int .i64 0), (2, .int .i64 0), (6, .int .i64 1)]) (fun _ => H) (fun _ => 0) () ?_ ?_
  · exact .inl rfl
  · rintro ⟨⟩
    repeat (first|(with_reducible first|apply X1|apply X2|apply X4|apply X8|apply Y1|apply Y4|apply Y6)|((with_reducible apply e_end);(simp;exact Red.rfl))|((with_reducible apply O1);rfl;(simp (disch:=omega);exact Red.rfl);exact Red.rfl;(focus (first|(simp;done)|omega|(simp;omega))))|((with_reducible apply W3);(simp (disch:=omega);exact Red.rfl)))
    exact q_drop0 (v := .tuple []) (.inl rfl) (by simp; exact Red.rfl) (by simp) rfl
theorem c_pdq0 (H : Heap) (lim : Int) : ACalls Tryz.prog F.slices_pdqsortOrdered_int [.nilslice, .int .i64 0, .int .i64 0, .int .i64 lim] H (fun _ h' => h' = H) := by
  refine acalls_of ok_slices_pdqsortOrdered_int rfl fun hcl => ?_
  unfold ac_slices_pdqsortOrdered_int
  simp only [argsT, Nat.zero_add, Nat.reduceAdd]
  repeat (first|(with_reducible first|apply X1|apply X2|apply X6|apply X8)|((with_reducible apply e_end);(simp;exact Red.rfl))|((with_reducible apply O1);rfl;(simp (disch:=omega);exact Red.rfl);exact Red.rfl;(focus (first|(simp;done)|omega|(simp;omega)))))
  refine e_loop (ι := Unit) (fun _ => [(0, .nilslice), (1, .int .i64 0), (2, .int .i64 0), (3, .int .i64 lim), (8, .bool true), (9, .bool true)]) (fun _ => H) (fun _ => 0) () ?_ ?_
  · exact .inl rfl
  · rintro ⟨⟩
    repeat (first|(with_reducible first|apply X1|apply X2|apply X6|apply X8)|((with_reducible apply e_end);(simp;exact Red.rfl))|((with_reducible apply O1);rfl;(simp (disch:=omega);exact Red.rfl);exact Red.rfl;(focus (first|(simp;done)|omega|(simp;omega))))|((with_reducible apply Z9);(simp (disch:=omega);exact Red.rfl)))
    (with_reducible apply e_call); (simp; exact Red.rfl); exact c_insort0 _
    rintro _ h2 he
    rw [he]
    repeat (first|(with_reducible first|apply X3|apply X8|apply X9|apply Y3|apply Y5)|((with_reducible apply e_end);(simp;exact Red.rfl)))
    exact q_drop0 (v := .tuple []) (.inr rfl) (by simp; exact Red.rfl) (by simp) rfl
theorem c_Sort0 (H : Heap) : ACalls Tryz.prog F.slices_Sort_int_int [.nilslice] H (fun _ h' => h' = H) := by
  refine acalls_of ok_slices_Sort_int_int rfl fun hcl => ?_
  unfold ac_slices_Sort_int_int
  simp only [argsT, Nat.zero_add, Nat.reduceAdd]
  have hw : IntKind.u64.wrap 0 = 0 := by simp [IntKind.wrap, IntKind.bits, IntKind.signed]
  repeat (first|(with_reducible first|apply X1|apply X2|apply X8)|((with_reducible apply e_end);(simp;exact Red.rfl))|((with_reducible apply O1);rfl;(simp (disch:=omega) [hw];exact Red.rfl);exact Red.rfl;(focus (first|(simp;done)|omega|(simp;omega)))))
  (with_reducible apply e_call); (simp; exact Red.rfl); exact c_Len _ 0 (by omega)
  rintro _ h2 ⟨he, lim, rfl⟩
  rw [he]
  clear he
  skip
  (with_reducible apply e_call); (simp; exact Red.rfl); exact c_pdq0 _ lim
  rintro _ h2 he
  rw [he]
  repeat ((with_reducible apply e_end);(simp;exact Red.rfl))
  exact q_drop0 (v := .tuple []) (.inl rfl) (by simp; exact Red.rfl) (by simp) rfl

theorem c_Keys (H : Heap) (mid : Nat) (hm : mid < H.length) : ACalls Tryz.prog F.maps_Keys_map_int_int_int_int [.map mid] H (fun v h' => v = kfn H.length ∧ h' = H ++ [.cells [.map mid] true]) := by
  refine acalls_of ok_maps_Keys_map_int_int_int_int rfl fun hcl => ?_
  unfold ac_maps_Keys_map_int_int_int_int
  simp only [argsT, Nat.zero_add, Nat.reduceAdd]
  unfold kfn
  repeat (first|(with_reducible first|apply X1|apply X2|apply X3|apply X8)|((with_reducible apply e_end);(simp;exact Red.rfl))|((with_reducible apply O1);rfl;(simp (disch:=omega);exact Red.rfl);exact Red.rfl;(focus (first|(simp;done)|omega|(simp;omega)))))
  refine q_stay (.inr rfl) (by simp; exact Red.rfl) ⟨rfl, rfl⟩

def lV (H : Heap) (n : Nat) : AV := if n = 0 then .nilslice else .slice H.length 0 n 1 false
def lO (n : Nat) (f : Nat → Int) : Heap := if n = 0 then [] else [.cells (avR (r1 f) n) true]
theorem c_AppendSeq (H : Heap) (cid mid c n : Nat) (es : List (AV × AV)) (bs : List Nat) (k : Nat → Int) (hM : KeyMap H mid es bs c n k) (hc : rd H cid 0 1 = some [.map mid]) (hn : n ≤ 1000) :
    ACalls Tryz.prog F.slices_AppendSeq_int_int [.nilslice, kfn cid] H (fun v h' => ∃ f, Ord n k f ∧ v = lV H n ∧ h' = H ++ lO n f) := by
  refine acalls_of ok_slices_AppendSeq_int_int rfl fun hcl => ?_
  unfold ac_slices_AppendSeq_int_int
  simp only [argsT, Nat.zero_add, Nat.reduceAdd]
  have hcid := rd_lt hc
  unfold kfn
  repeat (first|(with_reducible first|apply X1|apply X2|apply X6|apply X8)|((with_reducible apply e_end);(simp;exact Red.rfl))|((with_reducible apply O1);rfl;(simp (disch:=omega);exact Red.rfl);exact Red.rfl;(focus (first|(simp;done)|omega|(simp;omega)))))
  refine e_range (R := fun _ h' => ∃ f, Ord n k f ∧ h' = kR H cid n f) (by simp; exact Red.rfl) (by simp [tSc]; omega) (by simp; exact Red.rfl) ?_ ?_
  · have := c_Keys1 H cid mid c n es bs k hM hc hn
    simp only [kL, tK, kA, kB, kfn] at this ⊢
    simpa using this
  · rintro _ _ ⟨f, ho, rfl⟩
    unfold kR lV lO
    by_cases h0 : n = 0
    · simp only [if_pos h0]
      refine range_end (tt := tK H cid) (ps := [7]) (a := kA) (b := kB) (by simp [at_new, kL]; exact Red.rfl) (by simp [set_new]; exact Red.rfl) ?_
      repeat (first|(with_reducible first|apply X1|apply X2|apply X3|apply X8|apply Y2)|((with_reducible apply e_end);(simp;exact Red.rfl))|((with_reducible apply O1);rfl;(simp (disch:=omega);exact Red.rfl);exact Red.rfl;(focus (first|(simp;done)|omega|(simp;omega)))))
      exact q_post (v' := .nilslice) (.inr rfl) (by simp; exact Red.rfl) (le_drop (by simp)) ⟨f, ho, rfl, by simp⟩
    · simp only [if_neg h0]
      refine range_end (tt := tK H cid) (ps := [7]) (a := kA) (b := kB) (by simp [at_new, kL]; exact Red.rfl) (by simp [set_new]; exact Red.rfl) ?_
      repeat (first|(with_reducible first|apply X1|apply X2|apply X3|apply X8|apply Y2)|((with_reducible apply e_end);(simp;exact Red.rfl))|((with_reducible apply O1);rfl;(simp (disch:=omega);exact Red.rfl);exact Red.rfl;(focus (first|(simp;done)|omega|(simp;omega)))))
      exact q_post (v' := .slice H.length 0 n 1 false) (.inr rfl) (by simp; exact Red.rfl) (le_plain [2] _ (by simp) rfl (by simp; exact ((plain_r1 _).plain _).o _) (by simp [sh, AV.ren])) ⟨f, ho, rfl, rfl⟩

theorem c_Collect (H : Heap) (cid mid c n : Nat) (es : List (AV × AV)) (bs : List Nat) (k : Nat → Int) (hM : KeyMap H mid es bs c n k) (hc : rd H cid 0 1 = some [.map mid]) (hn : n ≤ 1000) :
    ACalls Tryz.prog F.slices_Collect_int [kfn cid] H (fun v h' => ∃ f, Ord n k f ∧ v = lV H n ∧ h' = H ++ lO n f) := by
  refine acalls_of ok_slices_Collect_int rfl fun hcl => ?_
  unfold ac_slices_Collect_int
  simp only [argsT, Nat.zero_add, Nat.reduceAdd]
  have ca := c_AppendSeq H cid mid c n es bs k hM hc hn
  unfold kfn at ca ⊢
  repeat (first|(with_reducible first|apply X1|apply X2|apply X8)|((with_reducible apply e_end);(simp;exact Red.rfl))|((with_reducible apply O1);rfl;(simp (disch:=omega);exact Red.rfl);exact Red.rfl;(focus (first|(simp;done)|omega|(simp;omega)))))
  (with_reducible apply e_call); (simp; exact Red.rfl); exact ca
  rintro _ _ ⟨f, ho, rfl, rfl⟩
  unfold lV lO
  by_cases h0 : n = 0
  · simp only [if_pos h0, List.append_nil]
    repeat (first|(with_reducible first|apply X3|apply X8)|((with_reducible apply e_end);(simp;exact Red.rfl))|((with_reducible apply O1);rfl;(simp (disch:=omega);exact Red.rfl);exact Red.rfl;(focus (first|(simp;done)|omega|(simp;omega)))))
    exact q_drop0 (.inr rfl) (by simp; exact Red.rfl) (by simp) ⟨f, ho, rfl, by simp⟩
  · simp only [if_neg h0]
    repeat (first|(with_reducible first|apply X3|apply X8)|((with_reducible apply e_end);(simp;exact Red.rfl))|((with_reducible apply O1);rfl;(simp (disch:=omega);exact Red.rfl);exact Red.rfl;(focus (first|(simp;done)|omega|(simp;omega)))))
    refine q_stay (.inr rfl) (by simp; exact Red.rfl) ⟨f, ho, rfl, rfl⟩

theorem c_Sorted (H : Heap) (cid mid c n : Nat) (es : List (AV × AV)) (bs : List Nat) (k : Nat → Int) (hM : KeyMap H mid es bs c n k) (hc : rd H cid 0 1 = some [.map mid]) (hn : n ≤ 12) (hk : ∀ i j, i < j → j < n → k i < k j) :
    ACalls Tryz.prog F.slices_Sorted_int [kfn cid] H (fun v h' => v = lV H n ∧ h' = H ++ lO n k) := by
  refine acalls_of ok_slices_Sorted_int rfl fun hcl => ?_
  unfold ac_slices_Sorted_int
  simp only [argsT, Nat.zero_add, Nat.reduceAdd]
  have ca := c_Collect H cid mid c n es bs k hM hc (by omega)
  unfold kfn at ca ⊢
  repeat (first|(with_reducible first|apply X1|apply X2|apply X8)|((with_reducible apply e_end);(simp;exact Red.rfl))|((with_reducible apply O1);rfl;(simp (disch:=omega);exact Red.rfl);exact Red.rfl;(focus (first|(simp;done)|omega|(simp;omega)))))
  (with_reducible apply e_call); (simp; exact Red.rfl); exact ca
  rintro _ _ ⟨f, ho, rfl, rfl⟩
  unfold lV lO
  by_cases h0 : n = 0
  · simp only [if_pos h0, List.append_nil]
    repeat (first|(with_reducible first|apply X1|apply X2|apply X8)|((with_reducible apply e_end);(simp;exact Red.rfl))|((with_reducible apply O1);rfl;(simp (disch:=omega);exact Red.rfl);exact Red.rfl;(focus (first|(simp;done)|omega|(simp;omega)))))
    (with_reducible apply e_call); (simp; exact Red.rfl); exact c_Sort0 _
    rintro _ h2 he
    rw [he]
    repeat (first|(with_reducible first|apply X1|apply X2|apply X3|apply X8)|((with_reducible apply e_end);(simp;exact Red.rfl))|((with_reducible apply O1);rfl;(simp (disch:=omega);exact Red.rfl);exact Red.rfl;(focus (first|(simp;done)|omega|(simp;omega)))))
    exact q_drop0 (.inr rfl) (by simp; exact Red.rfl) (by simp) ⟨rfl, rfl⟩
  · simp only [if_neg h0]
    repeat (first|(with_reducible first|apply X1|apply X2|apply X8)|((with_reducible apply e_end);(simp;exact Red.rfl))|((with_reducible apply O1);rfl;(simp (disch:=omega);exact Red.rfl);exact Red.rfl;(focus (first|(simp;done)|omega|(simp;omega)))))
    (with_reducible apply e_call); (simp; exact Red.rfl); exact c_Sort _ H.length n false k f (by rw [at_new0]; rfl) hn hk ho
    rintro _ _ rfl
    rw [set_new0]
    repeat (first|(with_reducible first|apply X1|apply X2|apply X3|apply X8)|((with_reducible apply e_end);(simp;exact Red.rfl))|((with_reducible apply O1);rfl;(simp (disch:=omega);exact Red.rfl);exact Red.rfl;(focus (first|(simp;done)|omega|(simp;omega)))))
    refine q_stay (.inr rfl) (by simp; exact Red.rfl) ⟨rfl, rfl⟩
end Go.Proofs
