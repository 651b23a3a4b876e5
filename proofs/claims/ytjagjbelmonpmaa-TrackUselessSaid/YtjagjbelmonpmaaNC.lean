/- Several texts as one. -/
import Derived.Test.YtjagjbelmonpmaaNB
import Derived.Test.YtjagjbelmonpmaaGH
import Derived.Test.YtjagjbelmonpmaaRunTrackAlive
/- What is told of measures that make no difference, one by one. -/
namespace Go.Proofs
open Go.Abs
attribute [local simp] AOp.den AOpd.ev lk cellsOf rd_new rd_new0 rd_zero rd_succ wr_new wr_new0 wr_zero wr_succ splice fillA binA scal sliceCells List.length_append argsT AV.sc scL AObj.sc resV getAll AR.get AOp.slots opdSlots opdsSlots partSlots eqAt at_new0 at_new set_new0 set_new wrap64
set_option linter.unusedSimpArgs false
set_option linter.unusedVariables false
theorem selF_split (sel : Nat → Bool) {n i : Nat} (hi : i < n) : selF sel n = selF sel i ++ (List.range' i (n - i)).filter sel := by
  simp only [selF, ← List.filter_append]
  congr 1
  rw [List.range_eq_range', List.range_eq_range']
  have := List.range'_append (s := 0) (m := i) (n := n - i) (step := 1)
  simp only [Nat.one_mul, Nat.zero_add] at this
  rw [this]; congr 1; omega
theorem selF_yes {sel : Nat → Bool} {n i : Nat} (hi : i < n) (hs : sel i = true) : (selF sel i).length < (selF sel n).length ∧ (selF sel n)[(selF sel i).length]? = some i := by
  rw [selF_split sel hi, show n - i = (n - i - 1) + 1 by omega, List.range'_succ, List.filter_cons_of_pos (by simpa using hs)]
  simp
theorem selF_no {sel : Nat → Bool} {n i : Nat} (hi : i < n) (hs : sel i = false) : (selF sel n)[(selF sel i).length]? ≠ some i := by
  rw [selF_split sel hi, show n - i = (n - i - 1) + 1 by omega, List.range'_succ, List.filter_cons_of_neg (by simp [hs])]
  intro h
  rw [List.getElem?_append_right (Nat.le_refl _), Nat.sub_self] at h
  have := List.mem_of_getElem? h
  simp only [List.mem_filter, List.mem_range'_1] at this
  omega
deriving instance DecidableEq for Ms
/-- A measure that stands at another place as well, among the first ones. -/
def twB (ms : List Ms) (i k : Nat) : Bool := (List.range k).any fun j => decide (j ≠ i) && decide (ms[j]? = ms[i]?)
theorem twB_succ (ms : List Ms) (i k : Nat) : twB ms i (k + 1) = (twB ms i k || (decide (k ≠ i) && decide (ms[k]? = ms[i]?))) := by
  simp only [twB, List.range_succ, List.any_append, List.any_cons, List.any_nil, Bool.or_false]
theorem twB_use {l : List Str} (hv : validL l) {ms : List Ms} (ok : ∀ i (h : i < ms.length), ms[i].ok l.length) (hL : goodK kLong l ms) (hF : goodK kFall l ms) {i : Nat} (hi : i < ms.length) (h : twB ms i ms.length = true) : useB l ms i = true := by
  simp only [twB, List.any_eq_true, Bool.and_eq_true, decide_eq_true_eq] at h
  obtain ⟨j, h1, h2, h3⟩ := h
  have h1 := List.mem_range.1 h1
  rw [List.getElem?_eq_getElem h1, List.getElem?_eq_getElem hi] at h3
  exact use_twice hv ok hL hF hi h1 h2 (Option.some.inj h3).symm
/-- The measures, turned round. -/
def rotL (ms : List Ms) (q k : Nat) : List Ms := (List.range k).map fun i => ms[(i + q) % ms.length]?.getD ⟨0, 0, 0, 0, 0⟩
theorem rotL_len (ms : List Ms) (q k : Nat) : (rotL ms q k).length = k := by simp [rotL]
theorem rotL_succ (ms : List Ms) (q k : Nat) : rotL ms q (k + 1) = rotL ms q k ++ [ms[(k + q) % ms.length]?.getD ⟨0, 0, 0, 0, 0⟩] := by
  simp [rotL, List.range_succ]
theorem rotL_sub {ms : List Ms} {q k : Nat} (hk : k ≤ ms.length) : ∀ m ∈ rotL ms q k, m ∈ ms := by
  intro m hm
  obtain ⟨i, hi, rfl⟩ := List.mem_map.1 hm
  have h1 : i < k := List.mem_range.1 hi
  have h2 : (i + q) % ms.length < ms.length := Nat.mod_lt _ (by omega)
  rw [List.getElem?_eq_getElem h2]
  exact List.getElem_mem _
theorem rotL_all {ms : List Ms} {q : Nat} (hq : q < ms.length) : ∀ m ∈ ms, m ∈ rotL ms q ms.length := by
  intro m hm
  obtain ⟨j, hj, rfl⟩ := List.getElem_of_mem hm
  by_cases h : q ≤ j
  · refine List.mem_map.2 ⟨j - q, List.mem_range.2 (by omega), ?_⟩
    rw [show j - q + q = j by omega, Nat.mod_eq_of_lt hj, List.getElem?_eq_getElem hj]; rfl
  · refine List.mem_map.2 ⟨j + ms.length - q, List.mem_range.2 (by omega), ?_⟩
    rw [show j + ms.length - q + q = j + ms.length by omega, Nat.add_mod_right, Nat.mod_eq_of_lt hj, List.getElem?_eq_getElem hj]; rfl
end Go.Proofs
/- The law TrackUseless. -/
namespace Go.Proofs
open Go.Abs
attribute [local simp] AOp.den AOpd.ev lk cellsOf rd_new rd_new0 rd_zero rd_succ wr_new wr_new0 wr_zero wr_succ splice fillA binA scal sliceCells List.length_append argsT AV.sc scL AObj.sc resV getAll AR.get AOp.slots opdSlots opdsSlots partSlots eqAt at_new0 at_new set_new0 set_new wrap64
set_option linter.unusedSimpArgs false
set_option linter.unusedVariables false
theorem c_aliveU (H : Heap) : ACalls Try.prog F.law01_alive [] H (fun v h => v = .bool true ∧ h = H) := Try.true35 H
theorem c_readyU (H : Heap) (l : List Str) (id off : Nat) (ex : Bool) (hs : rd H id off (l.length * 9) = some (l.flatMap Str.av)) :
    ACalls Try.prog F.law01_ready [.agg [.slice id off l.length 9 ex]] H (fun v h' => h' = H ∧ ∃ b : Bool, v = .bool b ∧ (b = true ↔ validL l)) := by
  refine acalls_of ok_law01_ready rfl fun hcl => ?_
  unfold ac_law01_ready
  simp only [argsT, Nat.zero_add, Nat.reduceAdd]
  have hid := rd_lt hs
  repeat (first|(with_reducible first|apply X1|apply X2|apply X8)|((with_reducible apply e_end);(simp;exact Red.rfl))|((with_reducible apply O1);rfl;(simp (disch:=omega);exact Red.rfl);exact Red.rfl;(focus (first|(simp;done)|omega|(simp;omega)))))
  (with_reducible apply e_call); (simp; exact Red.rfl); exact c_great _ _ _ _ _ (by simp; omega)
  rintro _ _ ⟨rfl, rfl⟩
  by_cases h20 : 20 < l.length
  · repeat (first|(with_reducible first|apply X3|apply X8)|((with_reducible apply e_end);(simp;exact Red.rfl))|((with_reducible apply O1);rfl;(simp (disch:=omega) [h20];exact Red.rfl);exact Red.rfl;(focus (first|(simp;done)|omega|(simp;omega))))|((with_reducible apply Z1);(simp (disch:=omega) [h20];exact Red.rfl)))
    refine q_drop (.inr rfl) (by simp; exact Red.rfl) (by simp) ⟨rfl, false, rfl, ?_⟩
    simp [validL]; omega
  · repeat (first|((with_reducible apply O1);rfl;(simp (disch:=omega) [h20];exact Red.rfl);exact Red.rfl;(focus (first|(simp;done)|omega|(simp;omega))))|((with_reducible apply Z7);(simp (disch:=omega) [h20];exact Red.rfl)))
    (with_reducible apply e_call); (simp; exact Red.rfl); exact c_rTrack _ l id off ex (by rw [rd_old _ hid]; exact hs) (by omega)
    rintro _ _ ⟨rfl, b, rfl, hb⟩
    repeat (first|(with_reducible first|apply X3|apply X8)|((with_reducible apply e_end);(simp;exact Red.rfl))|((with_reducible apply O1);rfl;(simp (disch:=omega) [h20];exact Red.rfl);exact Red.rfl;(focus (first|(simp;done)|omega|(simp;omega)))))
    exact q_drop (.inr rfl) (by simp; exact Red.rfl) (by simp) ⟨rfl, b, rfl, hb⟩
theorem c_NarrowBU (H : Heap) (l : List Str) (id off : Nat) (ex : Bool) (ms : List Ms) (mv : AV) (hs : rd H id off (l.length * 9) = some (l.flatMap Str.av)) (hv : validL l) (hm : SlM H mv ms) (hn : (ms.length : Int) ≤ 9223372036854775807) (hok : okMs l.length ms) (hb : ¬ (goodK kLong l ms ∧ goodK kFall l ms)) :
    ACalls Try.prog F.track_Narrow [.agg [.slice id off l.length 9 ex], mv] H (fun v h' => v = .tuple [.agg [.nilslice], .int .i64 8] ∧ h' = H) :=
  (c_NarrowD H l id off ex ms mv hs hv hm hn hok).mono fun _ _ h => by
    rcases h with ⟨h1, _⟩ | ⟨_, h2, h3⟩
    · exact absurd h1 hb
    · exact ⟨h2, h3⟩
/-- What the law's loops read. -/
structure UF (Y : Heap) (l : List Str) (ms : List Ms) (xs : List Nat) (id off mid moff p : Nat) (ex : Bool) (lv : AV) : Prop where
  r0 : rd Y id off (l.length * 9) = some (l.flatMap Str.av)
  rm : rd Y mid moff (ms.length * 5) = some (ms.flatMap Ms.av)
  r3 : rd Y p 0 1 = some [.slice id off l.length 9 ex]
  r8 : rd Y (p + 2) 0 1 = some [.slice (p + 1) 0 l.length 9 false]
  rL : Y[p + 1]? = some (.cells (avR (fun j => (lefS l ms j).av) l.length) true)
  rl : (xs = [] ∧ lv = .nilslice) ∨ (xs ≠ [] ∧ lv = .slice (p + 3) 0 xs.length 1 false ∧ rd Y (p + 3) 0 xs.length = some (avK xs))
theorem UF.app {Y : Heap} {l : List Str} {ms : List Ms} {xs : List Nat} {id off mid moff p : Nat} {ex : Bool} {lv : AV} (h : UF Y l ms xs id off mid moff p ex lv) (G : Heap) : UF (Y ++ G) l ms xs id off mid moff p ex lv := by
  obtain ⟨h1, h2, h3, h4, h5, h6⟩ := h
  refine ⟨by rw [rd_old _ (rd_lt h1)]; exact h1, by rw [rd_old _ (rd_lt h2)]; exact h2, by rw [rd_old _ (rd_lt h3)]; exact h3, by rw [rd_old _ (rd_lt h4)]; exact h4, by rw [List.getElem?_append_left (List.getElem?_eq_some_iff.1 h5).1]; exact h5, ?_⟩
  rcases h6 with h | ⟨h0, h, h6⟩
  · exact .inl h
  · exact .inr ⟨h0, h, by rw [rd_old _ (rd_lt h6)]; exact h6⟩
theorem ms_split (ms : List Ms) (n : Nat) : ms.flatMap Ms.av = (ms.take n).flatMap Ms.av ++ (ms.drop n).flatMap Ms.av := by rw [← List.flatMap_append, List.take_append_drop]
theorem ms_take {H : Heap} {mid moff n : Nat} {ms : List Ms} (hm : rd H mid moff (ms.length * 5) = some (ms.flatMap Ms.av)) (hn : n ≤ ms.length) : rd H mid moff (n * 5) = some ((ms.take n).flatMap Ms.av) := by
  have h := rd_sub hm (j := 0) (m := n * 5) (by omega)
  have hl : ((ms.take n).flatMap Ms.av).length = n * 5 := by rw [ms_lenU, List.length_take, Nat.min_eq_left hn]
  rw [Nat.add_zero] at h
  rw [h, List.drop_zero, ms_split ms n, List.take_append_of_le_length (by omega), List.take_of_length_le (by omega)]
theorem ms_drop {H : Heap} {mid moff n : Nat} {ms : List Ms} (hm : rd H mid moff (ms.length * 5) = some (ms.flatMap Ms.av)) (hn : n ≤ ms.length) : rd H mid (moff + n * 5) ((ms.length - n) * 5) = some ((ms.drop n).flatMap Ms.av) := by
  have h := rd_sub hm (j := n * 5) (m := (ms.length - n) * 5) (by omega)
  have hl : ((ms.take n).flatMap Ms.av).length = n * 5 := by rw [ms_lenU, List.length_take, Nat.min_eq_left hn]
  have hl2 : ((ms.drop n).flatMap Ms.av).length = (ms.length - n) * 5 := by rw [ms_lenU, List.length_drop]
  rw [h, ms_split ms n]
  congr 1
  have h0 : ((ms.take n).flatMap Ms.av).drop (n * 5) = [] := List.drop_eq_nil_of_le (by omega)
  rw [List.drop_append_of_le_length (by omega), h0, List.nil_append, List.take_of_length_le (by omega)]

set_option maxHeartbeats 8000000 in
theorem c_lawUseless (H : Heap) (l : List Str) (ms : List Ms) (turn : Int) (id off mid moff : Nat) (ex mex : Bool) (hs : rd H id off (l.length * 9) = some (l.flatMap Str.av))
    (hm : rd H mid moff (ms.length * 5) = some (ms.flatMap Ms.av)) (ht : 0 ≤ turn ∧ turn ≤ 255) (hn : (ms.length : Int) ≤ 9223372036854775807) (hk : ∀ i (h : i < ms.length), 0 ≤ ms[i].k ∧ ms[i].k ≤ 255) :
    ACalls Try.prog F.law01_TrackUseless [.agg [.slice id off l.length 9 ex], .slice mid moff ms.length 5 mex, .int .u8 turn] H (fun v _ => v = .bool true) := by
  refine acalls_of ok_law01_TrackUseless rfl fun hcl => ?_
  unfold ac_law01_TrackUseless
  simp only [argsT, Nat.zero_add, Nat.reduceAdd]
  have hid := rd_lt hs
  have hmid := rd_lt hm
  repeat (first|(with_reducible first|apply X1|apply X2|apply X8)|((with_reducible apply e_end);(simp;exact Red.rfl))|((with_reducible apply O1);rfl;(simp (disch:=omega);exact Red.rfl);exact Red.rfl;(focus (first|(simp;done)|omega|(simp;omega)))))
  (with_reducible apply e_call); (simp; exact Red.rfl); exact c_aliveU _
  rintro _ _ ⟨rfl, rfl⟩
  repeat (first|(with_reducible first|apply X1|apply X2|apply X8)|((with_reducible apply e_end);(simp;exact Red.rfl))|((with_reducible apply O1);rfl;(simp (disch:=omega);exact Red.rfl);exact Red.rfl;(focus (first|(simp;done)|omega|(simp;omega)))))
  (with_reducible apply e_call); (simp; exact Red.rfl); exact c_readyU _ l id off ex (by rw [rd_old _ hid]; exact hs)
  rintro _ _ ⟨rfl, b, rfl, hbv⟩
  cases b with
  | false =>
    repeat (first|(with_reducible first|apply X1|apply X2|apply X3|apply X8|apply X9)|((with_reducible apply e_end);(simp;exact Red.rfl))|((with_reducible apply O1);rfl;(simp (disch:=omega);exact Red.rfl);exact Red.rfl;(focus (first|(simp;done)|omega|(simp;omega))))|((with_reducible apply Z9);(simp (disch:=omega);exact Red.rfl))|((with_reducible apply Z2);(simp (disch:=omega);exact Red.rfl)))
    exact q_drop (.inr rfl) (by simp; exact Red.rfl) (by simp) rfl
  | true =>
    have hv := hbv.1 rfl
    have h12 := hv.1
    repeat (first|((with_reducible apply O1);rfl;(simp (disch:=omega);exact Red.rfl);exact Red.rfl;(focus (first|(simp;done)|omega|(simp;omega))))|((with_reducible apply Z7);(simp (disch:=omega);exact Red.rfl)))
    (with_reducible apply e_call); (simp; exact Red.rfl); exact c_rMeasures _ l.length id off ex ms mid moff mex (by simp; omega) (by rw [rd_old _ hmid]; exact hm) hn hk
    rintro _ _ ⟨rfl, b, rfl, hbm⟩
    cases b with
    | false =>
      repeat (first|(with_reducible first|apply X1|apply X2|apply X3|apply X8|apply X9)|((with_reducible apply e_end);(simp;exact Red.rfl))|((with_reducible apply O1);rfl;(simp (disch:=omega);exact Red.rfl);exact Red.rfl;(focus (first|(simp;done)|omega|(simp;omega))))|((with_reducible first|apply Z7|apply Z9);(simp (disch:=omega);exact Red.rfl))|((with_reducible apply Z2);(simp (disch:=omega);exact Red.rfl)))
      exact q_drop (.inr rfl) (by simp; exact Red.rfl) (by simp) rfl
    | true =>
      have okm := hbm.1 rfl
      have hm12 := okm.1
      repeat (first|(with_reducible first|apply X1|apply X2|apply X5|apply X8)|((with_reducible apply e_end);(simp;exact Red.rfl))|((with_reducible apply O1);rfl;(simp (disch:=omega);exact Red.rfl);exact Red.rfl;(focus (first|(simp;done)|omega|(simp;omega))))|((with_reducible apply Z7);(simp (disch:=omega);exact Red.rfl))|((with_reducible apply W3);(simp (disch:=omega);exact Red.rfl)))
      by_cases hgd : goodK kLong l ms ∧ goodK kFall l ms
      rotate_left
      · (with_reducible apply e_call); (simp; exact Red.rfl); exact c_NarrowBU _ l id off ex ms _ (by rw [rd_old _ hid]; exact hs) hv (.inr ⟨mid, moff, mex, rfl, by rw [rd_old _ hmid]; exact hm⟩) hn okm hgd
        rintro _ _ ⟨rfl, rfl⟩
        repeat (first|(with_reducible first|apply X1|apply X2|apply X8)|((with_reducible apply e_end);(simp;exact Red.rfl))|((first|((with_reducible apply O1);rfl)|((with_reducible apply O2);rfl));(simp (disch:=omega);exact Red.rfl);exact Red.rfl;(focus (first|(simp;done)|omega|(simp;omega)))))
        (with_reducible apply e_call); (simp; exact Red.rfl); exact c_UselessB _ l id off ex ms _ (by rw [rd_old _ hid]; exact hs) hv (.inr ⟨mid, moff, mex, rfl, by rw [rd_old _ hmid]; exact hm⟩) okm hgd
        rintro _ _ ⟨rfl, rfl⟩
        repeat (first|(with_reducible first|apply X1|apply X2|apply X3|apply X5|apply X8|apply X9)|((with_reducible apply e_end);(simp;exact Red.rfl))|((with_reducible apply O1);rfl;(simp (disch:=omega);exact Red.rfl);exact Red.rfl;(focus (first|(simp;done)|omega|(simp;omega))))|((with_reducible first|apply Z7|apply Z9);(simp (disch:=omega);exact Red.rfl))|((with_reducible apply W3);(simp (disch:=omega);exact Red.rfl)))
        exact q_drop (.inr rfl) (by simp; exact Red.rfl) (by simp) rfl
      obtain ⟨hL, hF⟩ := hgd
      (with_reducible apply e_call); (simp; exact Red.rfl); exact c_NarrowX _ l id off ex ms _ (by rw [rd_old _ hid]; exact hs) hv (.inr ⟨mid, moff, mex, rfl, by rw [rd_old _ hmid]; exact hm⟩) okm hL hF
      rintro _ _ ⟨rfl, rfl⟩
      repeat (first|(with_reducible first|apply X1|apply X2|apply X8)|((with_reducible apply e_end);(simp;exact Red.rfl))|((first|((with_reducible apply O1);rfl)|((with_reducible apply O2);rfl));(simp (disch:=omega);exact Red.rfl);exact Red.rfl;(focus (first|(simp;done)|omega|(simp;omega)))))
      (with_reducible apply e_call); (simp; exact Red.rfl); exact c_Useless _ l id off ex ms _ (by rw [rd_old _ hid]; exact hs) hv (.inr ⟨mid, moff, mex, rfl, by rw [rd_old _ hmid]; exact hm⟩) okm hL hF
      rintro _ _ ⟨rfl, rfl⟩
      have q0 := fun G : Heap => (rd_old G hid _ _).trans hs
      have q1 := fun G : Heap => (rd_old G hmid _ _).trans hm
      have U0 : UF (pH (H ++ [.cells [.slice id off l.length 9 ex] true, .cells (avR (fun j => (lefS l ms j).av) l.length) true, .cells [.slice (H.length + 1) 0 l.length 9 false] true]) (selF (useB l ms) ms.length)) l ms (selF (useB l ms) ms.length) id off mid moff H.length ex (pV (H.length + 3) (selF (useB l ms) ms.length)) := by
        generalize selF (useB l ms) ms.length = xs
        by_cases h0 : xs = []
        · subst h0
          simp only [pH, pV, if_true]
          exact ⟨q0 _, q1 _, by simp, by simp, by rw [at_new]; rfl, .inl ⟨rfl, rfl⟩⟩
        · simp only [pH, pV, if_neg h0, List.append_assoc, List.cons_append, List.nil_append]
          exact ⟨q0 _, q1 _, by simp, by simp, by rw [at_new]; rfl, .inr ⟨h0, rfl, rd_full (b := true) (by rw [at_new]; rfl) (avK_length _)⟩⟩
      simp only [List.length_append, List.length_cons, List.length_nil, Nat.zero_add, Nat.reduceAdd]
      generalize hxs : selF (useB l ms) ms.length = xs at U0 ⊢
      generalize pV (H.length + 3) xs = lv at U0 ⊢
      generalize pH _ xs = Y at U0 ⊢
      have lvsc : ∀ n, lv.sc (H.length + n) = true ∨ True := fun n => .inr trivial
      clear lvsc
      have pm := plainMs ms
      repeat (first|(with_reducible first|apply X1|apply X2|apply X5|apply X6|apply X8)|((with_reducible apply e_end);(simp;exact Red.rfl))|((with_reducible apply O1);rfl;(simp (disch:=omega);exact Red.rfl);exact Red.rfl;(focus (first|(simp;done)|omega|(simp;omega))))|((with_reducible apply W3);(simp (disch:=omega);exact Red.rfl)))
      refine e_loop (ι := { p : Nat × Heap // p.1 ≤ ms.length ∧ UF p.2 l ms xs id off mid moff H.length ex lv })
        (fun p => [(1, .slice mid moff ms.length 5 mex), (2, .int .u8 turn), (3, .ptr H.length 0), (7, .bool true), (8, .ptr (H.length + 2) 0), (10, lv), (12, .int .i64 ((selF (useB l ms) p.1.1).length : Int)), (67, .slice mid moff ms.length 5 mex), (68, .int .i64 ms.length), (69, .int .i64 p.1.1)])
        (fun p => p.1.2) (fun p => ms.length - p.1.1) ⟨(0, Y), by simp, U0⟩ ?_ ?_
      · exact .inl (by simp [selF])
      · clear U0
        rintro ⟨⟨i, Y⟩, hi, U⟩
        dsimp only at hi U ⊢
        have h3 := rd_lt U.r3
        have h8 := rd_lt U.r8
        have hYm := rd_lt U.rm
        by_cases hlt : i < ms.length
        · have hlt2 : (i : Int) < ms.length := by omega
          have hx := rd_row Ms.av_length U.rm hlt
          have hy : ms[i]? = some ms[i] := List.getElem?_eq_getElem hlt
          have tA := ms_take U.rm (n := i) (by omega)
          have tB := ms_drop U.rm (n := i + 1) (by omega)
          have lA : ((ms.take i).flatMap Ms.av).length = i * 5 := by rw [ms_lenU, List.length_take, Nat.min_eq_left (by omega)]
          have lB : ((ms.drop (i + 1)).flatMap Ms.av).length = (ms.length - (i + 1)) * 5 := by rw [ms_lenU, List.length_drop]
          have pA := plainMs (ms.take i)
          have pB := plainMs (ms.drop (i + 1))
          generalize ms[i] = y at hx hy
          obtain ⟨y1, y2, y3, y4, y5⟩ := y
          simp only [Ms.av] at hx
          have z1 : ((i : Int) + 1).toNat = i + 1 := by omega
          have z2 : (i : Int) + 1 ≤ ms.length := by omega
          have z3 : (i + 1) * 5 ≤ ms.length * 5 := by omega
          have U3 := U.r3
          have z4 : i + (ms.length - (i + 1)) = ms.length - 1 := by omega
          repeat (first|(with_reducible first|apply X1|apply X2|apply X5|apply X6|apply X8|apply Y9)|((with_reducible apply e_end);(simp;exact Red.rfl))|((first|((with_reducible apply O1);rfl)|((with_reducible apply O2);rfl)|((with_reducible apply P1);rfl)|((with_reducible apply P2);rfl)|((with_reducible apply P3);rfl));(simp (disch:=omega) [hlt, hlt2, hx, rd_old _ h3, U3, rd_old _ hYm, tA, tB, lA, lB, pA.scal, pB.scal, z1, z2, z3];exact Red.rfl);exact Red.rfl;(focus (first|(simp;done)|omega|(simp;omega))))|((with_reducible apply Z9);(simp (disch:=omega) [hlt, hlt2, hx, rd_old _ h3, U3, rd_old _ hYm, tA, tB, lA, lB, pA.scal, pB.scal, z1, z2, z3];exact Red.rfl)))
          (with_reducible apply d_do_); rfl; rfl; (simp (disch := omega) [rd_old _ hYm, rd_old _ h3, U3, tA, lA, pA.scal]; exact Red.rfl); exact Red.rfl
          · (first | (simp; done) | omega | (simp; omega))
          · (first | (simp; done) | omega | (simp; omega))
          · (first | (simp; done) | omega | (simp; omega))
          · simp [recheck, pr, AOp.sem, rd_old _ hYm, rd_old _ h3, U3, tA, lA, pA.scal]
          simp only [St.put]
          repeat ((with_reducible apply P1);rfl;(simp (disch:=omega) [rd_old _ h3, U3, rd_old _ hYm, tA, tB, lA, lB, pA.scal, pB.scal, z1, z2, z3];exact Red.rfl);exact Red.rfl;(focus (first|(simp;done)|omega|(simp;omega))))
          (with_reducible apply d_do_); rfl; rfl; (simp (disch := omega) [rd_old _ hYm, rd_old _ h3, U3, tB, lA, lB, pB.scal, take_all lA]; exact Red.rfl); exact Red.rfl
          · (first | (simp; done) | omega | (simp; omega))
          · (first | (simp; done) | omega | (simp; omega))
          · (first | (simp; done) | omega | (simp; omega))
          · simp [recheck, pr, AOp.sem, rd_old _ hYm, rd_old _ h3, U3, tB, lA, lB, pB.scal, take_all lA]
          simp only [St.put]
          have hes : ms.take i ++ ms.drop (i + 1) = ms.eraseIdx i := (List.eraseIdx_eq_take_drop_succ ..).symm
          have hel : i + (ms.length - (i + 1)) = (ms.eraseIdx i).length := by rw [few_len hlt]; omega
          rw [← List.flatMap_append, hes, hel]
          have few := ok_sub (few_mem ms i) okm.2
          have fL := good_sub (few_mem ms i) okm.2 hL
          have fF := good_sub (few_mem ms i) okm.2 hF
          have fln := few_len hlt
          have hnw := few_nrw hv few okm.2 hL hF (fun k x h => sat_sub (few_mem ms i) h)
          have htw := twB_use hv okm.2 hL hF hlt
          have hsy := fun h => selF_yes (sel := useB l ms) hlt h
          have hsn := fun h => selF_no (sel := useB l ms) hlt h
          have hsu := selF_succ (useB l ms) i
          have hul : useB l ms i = sameB (lefS l (ms.eraseIdx i)) (lefS l ms) l.length := rfl
          rw [hxs] at hsy hsn
          generalize ms.eraseIdx i = es at *
          (with_reducible apply d_call_); (simp; exact Red.rfl); exact c_NarrowX _ l id off ex es _ (by rw [rd_old _ (rd_lt U.r0)]; exact U.r0) hv (.inr ⟨Y.length + 3, 0, false, rfl, rd_full (b := true) (by simp [at_new]) (ms_lenU es)⟩) ⟨by omega, few⟩ fL fF; (focus (first | (simp; done) | (simp; omega)))
          generalize useB l ms i = bu at *
          repeat (first|(with_reducible first|apply X1|apply X2|apply X8)|((with_reducible apply d_end);(simp;exact Red.rfl))|((first|((with_reducible apply O1);rfl)|((with_reducible apply P1);rfl)|((with_reducible apply P3);rfl)|((with_reducible apply P4);rfl));(simp (disch:=omega);exact Red.rfl);exact Red.rfl;(focus (first|(simp;done)|omega|(simp;omega)))))
          have alen := selF_len (useB l ms) i
          generalize selF (useB l ms) i = ss at *
          refine e_cut (fun t h => t = [(1, .slice mid moff ms.length 5 mex), (2, .int .u8 turn), (3, .ptr H.length 0), (7, .bool true), (8, .ptr (H.length + 2) 0), (10, lv), (12, .int .i64 ss.length), (13, .int .i64 i), (14, .ptr Y.length 0), (15, .ptr (Y.length + 5) 0), (16, .int .i64 0), (17, .bool bu), (67, .slice mid moff ms.length 5 mex), (68, .int .i64 ms.length), (69, .int .i64 i)] ∧ h = Y ++ [.cells [.int .u8 y1, .int .i64 y2, .int .i64 y3, .int .i64 y4, .int .i64 y5] true, .dead, .dead, .cells (es.flatMap Ms.av) true, .cells (avR (fun j => (lefS l es j).av) l.length) true, .cells [.slice (Y.length + 4) 0 l.length 9 false] true]) ?_ ?_
          · rcases U.rl with ⟨rfl, rfl⟩ | ⟨h0, rfl, hrl⟩
            · cases bu with
              | true => have := (hsy rfl).1; simp at this
              | false =>
                have g1 : ¬ (ss.length : Int) < 0 := by omega
                repeat (first|((with_reducible apply e_end);(simp;exact Red.rfl))|((with_reducible apply O1);rfl;(simp (disch:=omega) [g1];exact Red.rfl);exact Red.rfl;(focus (first|(simp;done)|omega|(simp;omega))))|((with_reducible apply Z1);(simp (disch:=omega) [g1];exact Red.rfl)))
                exact q_keep ⟨rfl, rfl⟩
            · have hrp := rd_lt hrl
              by_cases hal : ss.length < xs.length
              · have g1 : (ss.length : Int) < xs.length := by omega
                have g2 := rd_sub hrl (j := ss.length) (m := 1) (by omega)
                rw [Nat.zero_add, avK_get hal] at g2
                cases bu with
                | true =>
                  have g3 := (hsy rfl).2
                  rw [List.getElem?_eq_getElem hal] at g3
                  have g3 := Option.some.inj g3
                  rw [g3] at g2
                  repeat (first|((with_reducible apply e_end);(simp;exact Red.rfl))|((with_reducible apply O1);rfl;(simp (disch:=omega) [g1, rd_old _ hrp, g2];exact Red.rfl);exact Red.rfl;(focus (first|(simp;done)|omega|(simp;omega))))|((with_reducible apply Z7);(simp (disch:=omega) [g1, rd_old _ hrp, g2];exact Red.rfl)))
                  exact q_keep ⟨rfl, rfl⟩
                | false =>
                  have g3 := hsn rfl
                  rw [List.getElem?_eq_getElem hal] at g3
                  generalize xs[ss.length] = q at g2 g3
                  have g4 : ¬ (q : Int) = i := fun h => g3 (by rw [show q = i by omega])
                  repeat (first|((with_reducible apply e_end);(simp;exact Red.rfl))|((with_reducible apply O1);rfl;(simp (disch:=omega) [g1, rd_old _ hrp, g2, g4];exact Red.rfl);exact Red.rfl;(focus (first|(simp;done)|omega|(simp;omega))))|((with_reducible apply Z7);(simp (disch:=omega) [g1, rd_old _ hrp, g2, g4];exact Red.rfl)))
                  exact q_keep ⟨rfl, rfl⟩
              · cases bu with
                | true => exact absurd (hsy rfl).1 hal
                | false =>
                  have g1 : ¬ (ss.length : Int) < xs.length := by omega
                  repeat (first|((with_reducible apply e_end);(simp;exact Red.rfl))|((with_reducible apply O1);rfl;(simp (disch:=omega) [g1];exact Red.rfl);exact Red.rfl;(focus (first|(simp;done)|omega|(simp;omega))))|((with_reducible apply Z1);(simp (disch:=omega) [g1];exact Red.rfl)))
                  exact q_keep ⟨rfl, rfl⟩
          rintro _ _ ⟨rfl, rfl⟩
          apply X8
          apply X1
          refine c_cut (fun t h => (∃ x, t = (1, .slice mid moff ms.length 5 mex) :: (2, .int .u8 turn) :: (3, .ptr H.length 0) :: (7, .bool true) :: (8, .ptr (H.length + 2) 0) :: (10, lv) :: (12, .int .i64 ((selF (useB l ms) (i + 1)).length : Int)) :: (13, .int .i64 i) :: (14, .ptr Y.length 0) :: (15, .ptr (Y.length + 5) 0) :: (16, .int .i64 0) :: (17, .bool bu) :: (67, .slice mid moff ms.length 5 mex) :: (68, .int .i64 ms.length) :: (69, .int .i64 i) :: x) ∧ h = Y ++ [.cells [.int .u8 y1, .int .i64 y2, .int .i64 y3, .int .i64 y4, .int .i64 y5] true, .dead, .dead, .cells (es.flatMap Ms.av) true, .cells (avR (fun j => (lefS l es j).av) l.length) true, .cells [.slice (Y.length + 4) 0 l.length 9 false] true]) ?_ ?_
          · rw [hsu]
            cases bu with
            | true =>
              simp only [if_true, List.length_append, List.length_cons, List.length_nil, Nat.zero_add]
              repeat (first|(with_reducible first|apply X1|apply X2|apply X8)|((with_reducible apply e_end);(simp;exact Red.rfl))|((with_reducible apply O1);rfl;(simp (disch:=omega);exact Red.rfl);exact Red.rfl;(focus (first|(simp;done)|omega|(simp;omega))))|((with_reducible apply Z9);(simp (disch:=omega);exact Red.rfl)))
              exact q_cut ⟨⟨[], by simp⟩, rfl⟩
            | false =>
              repeat (first|(with_reducible first|apply X1|apply X2|apply X5|apply X8)|((with_reducible apply e_end);(simp;exact Red.rfl))|((with_reducible apply O1);rfl;(simp (disch:=omega);exact Red.rfl);exact Red.rfl;(focus (first|(simp;done)|omega|(simp;omega))))|((with_reducible apply W3);(simp (disch:=omega);exact Red.rfl)))
              exact q_cut ⟨⟨_, rfl⟩, rfl⟩
          rintro _ _ ⟨⟨x, rfl⟩, rfl⟩
          clear tA tB lA lB pA pB hx hsy hsn z1 z2 z3 z4
          have U := U.app [.cells [.int .u8 y1, .int .i64 y2, .int .i64 y3, .int .i64 y4, .int .i64 y5] true, .dead, .dead, .cells (es.flatMap Ms.av) true, .cells (avR (fun j => (lefS l es j).av) l.length) true, .cells [.slice (Y.length + 4) 0 l.length 9 false] true]
          have m14 : rd (Y ++ [.cells [.int .u8 y1, .int .i64 y2, .int .i64 y3, .int .i64 y4, .int .i64 y5] true, .dead, .dead, .cells (es.flatMap Ms.av) true, .cells (avR (fun j => (lefS l es j).av) l.length) true, .cells [.slice (Y.length + 4) 0 l.length 9 false] true]) Y.length 0 5 = some [.int .u8 y1, .int .i64 y2, .int .i64 y3, .int .i64 y4, .int .i64 y5] := by simp
          have m15 : rd (Y ++ [.cells [.int .u8 y1, .int .i64 y2, .int .i64 y3, .int .i64 y4, .int .i64 y5] true, .dead, .dead, .cells (es.flatMap Ms.av) true, .cells (avR (fun j => (lefS l es j).av) l.length) true, .cells [.slice (Y.length + 4) 0 l.length 9 false] true]) (Y.length + 5) 0 1 = some [.slice (Y.length + 4) 0 l.length 9 false] := by simp [at_new]
          have m16 : (Y ++ [.cells [.int .u8 y1, .int .i64 y2, .int .i64 y3, .int .i64 y4, .int .i64 y5] true, .dead, .dead, .cells (es.flatMap Ms.av) true, .cells (avR (fun j => (lefS l es j).av) l.length) true, .cells [.slice (Y.length + 4) 0 l.length 9 false] true])[Y.length + 4]? = some (.cells (avR (fun j => (lefS l es j).av) l.length) true) := by simp [at_new]
          generalize Y ++ [.cells [.int .u8 y1, .int .i64 y2, .int .i64 y3, .int .i64 y4, .int .i64 y5] true, .dead, .dead, .cells (es.flatMap Ms.av) true, .cells (avR (fun j => (lefS l es j).av) l.length) true, .cells [.slice (Y.length + 4) 0 l.length 9 false] true] = Z at *
          apply X8
          repeat (first|(with_reducible first|apply X1|apply X2|apply X6|apply X8)|((with_reducible apply e_end);(simp;exact Red.rfl))|((with_reducible apply O1);rfl;(simp (disch:=omega);exact Red.rfl);exact Red.rfl;(focus (first|(simp;done)|omega|(simp;omega)))))
          refine e_loop (ι := { p : Nat × Heap // p.1 ≤ ms.length ∧ UF p.2 l ms xs id off mid moff H.length ex lv ∧ rd p.2 Y.length 0 5 = some [.int .u8 y1, .int .i64 y2, .int .i64 y3, .int .i64 y4, .int .i64 y5] ∧ rd p.2 (Y.length + 5) 0 1 = some [.slice (Y.length + 4) 0 l.length 9 false] ∧ p.2[Y.length + 4]? = some (.cells (avR (fun j => (lefS l es j).av) l.length) true) })
            (fun p => [(1, .slice mid moff ms.length 5 mex), (2, .int .u8 turn), (3, .ptr H.length 0), (7, .bool true), (8, .ptr (H.length + 2) 0), (10, lv), (12, .int .i64 ((selF (useB l ms) (i + 1)).length : Int)), (13, .int .i64 i), (14, .ptr Y.length 0), (15, .ptr (Y.length + 5) 0), (16, .int .i64 0), (17, .bool bu), (18, .bool (twB ms i p.1.1)), (67, .slice mid moff ms.length 5 mex), (68, .int .i64 ms.length), (69, .int .i64 i), (104, .slice mid moff ms.length 5 mex), (105, .int .i64 ms.length), (106, .int .i64 p.1.1)])
            (fun p => p.1.2) (fun p => ms.length - p.1.1) ⟨(0, Z), by simp, U, m14, m15, m16⟩ ?_ ?_
          · exact .inl (by simp [twB])
          · clear U m14 m15 m16
            rintro ⟨⟨k, Z⟩, hkl, U, m14, m15, m16⟩
            dsimp only at hkl U m14 m15 m16 ⊢
            have h3 := rd_lt U.r3
            have h8 := rd_lt U.r8
            have hZm := rd_lt U.rm
            have h14 := rd_lt m14
            have h15 := rd_lt m15
            have h16 := (List.getElem?_eq_some_iff.1 m16).1
            by_cases hkn : k < ms.length
            · have hkn2 : (k : Int) < ms.length := by omega
              have hz := rd_row Ms.av_length U.rm hkn
              have hzk : ms[k]? = some ms[k] := List.getElem?_eq_getElem hkn
              have hst := twB_succ ms i k
              generalize ms[k] = z at hz hzk
              obtain ⟨z1, z2, z3, z4, z5⟩ := z
              simp only [Ms.av] at hz
              have hdec : decide (ms[k]? = ms[i]?) = (decide (y1 = z1) && (decide (y2 = z2) && (decide (y3 = z3) && (decide (y4 = z4) && decide (y5 = z5))))) := by
                rw [hzk, hy, Bool.eq_iff_iff]
                simp only [Option.some.injEq, Ms.mk.injEq, decide_eq_true_eq, Bool.and_eq_true]
                constructor
                · rintro ⟨rfl, rfl, rfl, rfl, rfl⟩; exact ⟨rfl, rfl, rfl, rfl, rfl⟩
                · rintro ⟨rfl, rfl, rfl, rfl, rfl⟩; exact ⟨rfl, rfl, rfl, rfl, rfl⟩
              rw [hdec] at hst
              have mv : ∀ G : Heap, k + 1 ≤ ms.length ∧ UF (Z ++ G) l ms xs id off mid moff H.length ex lv ∧ rd (Z ++ G) Y.length 0 5 = some [.int .u8 y1, .int .i64 y2, .int .i64 y3, .int .i64 y4, .int .i64 y5] ∧ rd (Z ++ G) (Y.length + 5) 0 1 = some [.slice (Y.length + 4) 0 l.length 9 false] ∧ (Z ++ G)[Y.length + 4]? = some (.cells (avR (fun j => (lefS l es j).av) l.length) true) := fun G => ⟨hkn, U.app G, by rw [rd_old _ h14]; exact m14, by rw [rd_old _ h15]; exact m15, by rw [List.getElem?_append_left h16]; exact m16⟩
              cases htk : twB ms i k with
              | true =>
                rw [htk, Bool.true_or] at hst
                repeat (first|(with_reducible first|apply X1|apply X2|apply X5|apply X6|apply X8|apply Y2)|((with_reducible apply e_end);(simp;exact Red.rfl))|((first|((with_reducible apply O1);rfl)|((with_reducible apply O2);rfl));(simp (disch:=omega) [hkn, hkn2, hz];exact Red.rfl);exact Red.rfl;(focus (first|(simp;done)|omega|(simp;omega))))|((with_reducible apply Z9);(simp (disch:=omega) [hkn, hkn2, hz];exact Red.rfl))|((with_reducible apply Z2);(simp (disch:=omega) [hkn, hkn2, hz];exact Red.rfl))|((with_reducible apply W1);(simp (disch:=omega) [hkn, hkn2, hz];exact Red.rfl)))
                exact q_again ⟨(k + 1, Z ++ [.cells [.int .u8 z1, .int .i64 z2, .int .i64 z3, .int .i64 z4, .int .i64 z5] true]), mv _⟩ (by dsimp only; omega) (.inl (by simp [hst]))
              | false =>
                rw [htk, Bool.false_or] at hst
                by_cases hki : k = i
                · subst hki
                  simp only [ne_eq, not_true_eq_false, decide_false, Bool.false_and] at hst
                  repeat (first|(with_reducible first|apply X1|apply X2|apply X5|apply X6|apply X8|apply Y2)|((with_reducible apply e_end);(simp;exact Red.rfl))|((first|((with_reducible apply O1);rfl)|((with_reducible apply O2);rfl));(simp (disch:=omega) [hkn, hkn2, hz];exact Red.rfl);exact Red.rfl;(focus (first|(simp;done)|omega|(simp;omega))))|((with_reducible first|apply Z7|apply Z9);(simp (disch:=omega) [hkn, hkn2, hz];exact Red.rfl))|((with_reducible apply Z1);(simp (disch:=omega) [hkn, hkn2, hz];exact Red.rfl)))
                  exact q_again ⟨(k + 1, Z ++ [.cells [.int .u8 z1, .int .i64 z2, .int .i64 z3, .int .i64 z4, .int .i64 z5] true]), mv _⟩ (by dsimp only; omega) (.inl (by simp [hst]))
                · have hki2 : ¬ (k : Int) = i := by omega
                  simp only [hki, ne_eq, not_false_eq_true, decide_true, Bool.true_and] at hst
                  repeat (first|(with_reducible first|apply X1|apply X2|apply X5|apply X6|apply X8|apply Y2)|((with_reducible apply e_end);(simp;exact Red.rfl))|((first|((with_reducible apply O1);rfl)|((with_reducible apply O2);rfl));(simp (disch:=omega) [hkn, hkn2, hz, hki2, rd_old _ h14, m14];exact Red.rfl);exact Red.rfl;(focus (first|(simp;done)|omega|(simp;omega))))|((with_reducible first|apply Z7|apply Z9);(simp (disch:=omega) [hkn, hkn2, hz, hki2, rd_old _ h14, m14];exact Red.rfl)))
                  exact q_again ⟨(k + 1, Z ++ [.cells [.int .u8 z1, .int .i64 z2, .int .i64 z3, .int .i64 z4, .int .i64 z5] true]), mv _⟩ (by dsimp only; omega) (.inl (by simp [hst]))
            · obtain rfl : k = ms.length := by omega
              clear hkn hkl
              have cS := c_SameG Z (lefS l es) (lefS l ms) l.length (Y.length + 4) (H.length + 1) 0 0 false false (rd_full m16 (lenS _ _)) (rd_full U.rL (lenS _ _)) (by omega)
              rw [← hul] at cS
              have cW := c_narrower Z (lefS l ms) (lefL2 l es) l.length (H.length + 1) (Y.length + 4) 0 true false false U.rL (by rw [lefL2_len, lefL2, listS_av]; exact rd_full m16 (lenS _ _)) (lefL2_len _ _) (by omega) hnw
              have U8 := U.r8
              generalize hT : twB ms i ms.length = tw at *
              have hbu : (tw = true → bu = true) := htw
              cases tw with
              | true =>
                obtain rfl := hbu rfl
                repeat (first|(with_reducible first|apply X1|apply X2|apply X4|apply X8|apply Y1|apply Y4|apply Y6)|((with_reducible apply e_end);(simp;exact Red.rfl))|((with_reducible apply O1);rfl;(simp (disch:=omega) [m15, U8];exact Red.rfl);exact Red.rfl;(focus (first|(simp;done)|omega|(simp;omega))))|((with_reducible apply Z7);(simp (disch:=omega) [m15, U8];exact Red.rfl))|((with_reducible apply W3);(simp (disch:=omega) [m15, U8];exact Red.rfl)))
                (with_reducible apply e_call); (simp; exact Red.rfl); exact cS
                rintro _ hqh ⟨rfl, hqe⟩
                rw [hqe]; clear hqe hqh
                repeat (first|((with_reducible apply O1);rfl;(simp (disch:=omega) [m15, U8];exact Red.rfl);exact Red.rfl;(focus (first|(simp;done)|omega|(simp;omega))))|((with_reducible apply Z7);(simp (disch:=omega) [m15, U8];exact Red.rfl)))
                (with_reducible apply e_call); (simp; exact Red.rfl); exact cW
                rintro _ hqh ⟨rfl, hqe⟩
                rw [hqe]; clear hqe hqh
                repeat (first|(with_reducible first|apply X2|apply X5|apply X8|apply Y2)|((with_reducible apply e_end);(simp;exact Red.rfl))|((with_reducible apply O1);rfl;(simp (disch:=omega) [m15, U8];exact Red.rfl);exact Red.rfl;(focus (first|(simp;done)|omega|(simp;omega))))|((with_reducible apply Z7);(simp (disch:=omega) [m15, U8];exact Red.rfl))|((with_reducible apply W3);(simp (disch:=omega) [m15, U8];exact Red.rfl)))
                exact q_again ⟨(i + 1, Z), hlt, U⟩ (by dsimp only; omega) (.inl (by simp))
              | false =>
                repeat (first|(with_reducible first|apply X1|apply X2|apply X4|apply X8|apply Y1|apply Y4|apply Y6)|((with_reducible apply e_end);(simp;exact Red.rfl))|((with_reducible apply O1);rfl;(simp (disch:=omega) [m15, U8];exact Red.rfl);exact Red.rfl;(focus (first|(simp;done)|omega|(simp;omega))))|((with_reducible apply Z7);(simp (disch:=omega) [m15, U8];exact Red.rfl))|((with_reducible apply W3);(simp (disch:=omega) [m15, U8];exact Red.rfl)))
                (with_reducible apply e_call); (simp; exact Red.rfl); exact cS
                rintro _ hqh ⟨rfl, hqe⟩
                rw [hqe]; clear hqe hqh
                repeat (first|((with_reducible apply O1);rfl;(simp (disch:=omega) [m15, U8];exact Red.rfl);exact Red.rfl;(focus (first|(simp;done)|omega|(simp;omega))))|((with_reducible apply Z7);(simp (disch:=omega) [m15, U8];exact Red.rfl)))
                (with_reducible apply e_call); (simp; exact Red.rfl); exact cW
                rintro _ hqh ⟨rfl, hqe⟩
                rw [hqe]; clear hqe hqh
                repeat (first|(with_reducible first|apply X2|apply X5|apply X8|apply Y2)|((with_reducible apply e_end);(simp;exact Red.rfl))|((with_reducible apply O1);rfl;(simp (disch:=omega) [m15, U8];exact Red.rfl);exact Red.rfl;(focus (first|(simp;done)|omega|(simp;omega))))|((with_reducible apply Z7);(simp (disch:=omega) [m15, U8];exact Red.rfl))|((with_reducible apply Z1);(simp (disch:=omega) [m15, U8];exact Red.rfl))|((with_reducible apply W3);(simp (disch:=omega) [m15, U8];exact Red.rfl)))
                exact q_again ⟨(i + 1, Z), hlt, U⟩ (by dsimp only; omega) (.inl (by simp))
        · obtain rfl : i = ms.length := by omega
          clear hlt hi
          rw [hxs]
          obtain ⟨q, hqm, hqr⟩ : ∃ q : Nat, (ms.length ≠ 0 → turn.tmod (ms.length : Int) = q) ∧ (ms.length ≠ 0 → q < ms.length) := by
            by_cases h0 : ms.length = 0
            · exact ⟨0, fun h => absurd h0 h, fun h => absurd h0 h⟩
            · have h1 := Int.emod_nonneg turn (show (ms.length : Int) ≠ 0 by omega)
              have h2 := Int.emod_lt_of_pos turn (show 0 < (ms.length : Int) by omega)
              have h3 : turn.tmod (ms.length : Int) = turn % (ms.length : Int) := Int.tmod_eq_emod_of_nonneg ht.1
              exact ⟨(turn % (ms.length : Int)).toNat, fun _ => by rw [h3]; omega, fun _ => by omega⟩
          repeat (first|(with_reducible first|apply X1|apply X2|apply X4|apply X6|apply X8|apply Y1|apply Y4|apply Y6)|((with_reducible apply e_end);(simp;exact Red.rfl))|((with_reducible apply O1);rfl;(simp (disch:=omega);exact Red.rfl);exact Red.rfl;(focus (first|(simp;done)|omega|(simp;omega))))|((with_reducible apply W3);(simp (disch:=omega);exact Red.rfl)))
          refine e_loop (ι := { p : Nat × AV × Heap // p.1 ≤ ms.length ∧ AAt (Y ++ p.2.2) 5 p.2.1 ((rotL ms q p.1).flatMap Ms.av) p.1 ∧ ∀ k, isId p.2.1 k → Y.length ≤ k })
            (fun p => [(1, .slice mid moff ms.length 5 mex), (2, .int .u8 turn), (3, .ptr H.length 0), (7, .bool true), (8, .ptr (H.length + 2) 0), (10, lv), (12, .int .i64 xs.length), (21, p.1.2.1), (147, .int .i64 ms.length), (148, .int .i64 p.1.1)])
            (fun p => Y ++ p.1.2.2) (fun p => ms.length - p.1.1) ⟨(0, .nilslice, []), by simp, by simpa [rotL] using AAt.nil _ _, fun k hk => by cases hk⟩ ?_ ?_
          · exact .inl (by simp)
          · rintro ⟨⟨k, v, G⟩, hkl, hv2, hvi⟩
            dsimp only at hkl hv2 hvi ⊢
            by_cases hlt : k < ms.length
            · have hlt2 : (k : Int) < ms.length := by omega
              have hqm := hqm (by omega)
              have hqr := hqr (by omega)
              have hne : ¬ ms = [] := by rintro rfl; simp at hlt
              have hmm : ((k : Int) + q).tmod (ms.length : Int) = (((k + q) % ms.length : Nat) : Int) := by
                rw [Int.tmod_eq_emod_of_nonneg (by omega)]; simp
              have hj : (k + q) % ms.length < ms.length := Nat.mod_lt _ (by omega)
              have hst := rotL_succ ms q k
              generalize (k + q) % ms.length = j at hmm hj hst
              have hj2 : (j : Int) < ms.length := by omega
              have hz := rd_row Ms.av_length U.rm hj
              rw [List.getElem?_eq_getElem hj] at hst
              generalize ms[j] = z at hz hst
              obtain ⟨z1, z2, z3, z4, z5⟩ := z
              simp only [Ms.av] at hz
              repeat (first|(with_reducible first|apply X1|apply X2|apply X5|apply X6|apply X8)|((with_reducible apply e_end);(simp;exact Red.rfl))|((with_reducible apply O1);rfl;(simp (disch:=omega) [hlt, hlt2, hqm, hmm, hne, hj, hj2, rd_old _ hYm, hz];exact Red.rfl);exact Red.rfl;(focus (first|(simp;done)|omega|(simp;omega))))|((with_reducible apply Z9);(simp (disch:=omega) [hlt, hlt2, hqm, hmm, hne, hj, hj2, rd_old _ hYm, hz];exact Red.rfl)))
              refine e_appA (A := Y) (G := G ++ [.cells [.int .u8 z1, .int .i64 z2, .int .i64 z3, .int .i64 z4, .int .i64 z5] true]) (cs := (rotL ms q k).flatMap Ms.av) (n := k) (m := 1) (new := [.int .u8 z1, .int .i64 z2, .int .i64 z3, .int .i64 z4, .int .i64 z5]) (by simp) (by simp; exact Red.rfl) (by simp; exact Red.rfl) (by have := hv2.app [.cells [.int .u8 z1, .int .i64 z2, .int .i64 z3, .int .i64 z4, .int .i64 z5] true]; simpa using this) (fun k hk => by have := hvi k hk; simp; omega) (by simp [Nat.add_assoc]) (by simp) (by omega) (by omega) ?_
              intro G2 v2 e3 e4 _ _ _
              repeat (first|(with_reducible first|apply X2|apply X8|apply Y2)|((with_reducible apply e_end);(simp;exact Red.rfl))|((with_reducible apply O1);rfl;(simp (disch:=omega);exact Red.rfl);exact Red.rfl;(focus (first|(simp;done)|omega|(simp;omega)))))
              refine q_again ⟨(k + 1, v2, G2), hlt, ?_, ?_⟩ (by dsimp only; omega) (.inl (by simp))
              · simp only [hst, List.flatMap_append, List.flatMap_cons, List.flatMap_nil, List.append_nil, Ms.av]; exact e3
              · intro k hk; have := e4 k hk; simpa using this
            · obtain rfl : k = ms.length := by omega
              clear hlt hkl
              have hr1 := rotL_sub (ms := ms) (q := q) (Nat.le_refl ms.length)
              have hr2 : ∀ m ∈ ms, m ∈ rotL ms q ms.length := by
                by_cases h0 : ms.length = 0
                · obtain rfl : ms = [] := List.eq_nil_of_length_eq_zero h0
                  intro m hm; cases hm
                · exact rotL_all (hqr h0)
              have hrl := rotL_len ms q ms.length
              have hsame : avR (fun j => (lefS l (rotL ms q ms.length) j).av) l.length = avR (fun j => (lefS l ms j).av) l.length := avR_congr fun j hj => by rw [lef_same hv okm.2 hr1 hr2 hL hF hj]
              have okr := ok_sub hr1 okm.2
              have gL := good_sub hr1 okm.2 hL
              have gF := good_sub hr1 okm.2 hF
              generalize rotL ms q ms.length = rs at *
              have hSl : SlM (Y ++ G) v rs := by
                obtain ⟨_, ⟨rfl, h0⟩ | ⟨vid, h0, rfl, hh⟩⟩ := hv2
                · exact .inl ⟨rfl, List.eq_nil_of_length_eq_zero (by omega)⟩
                · exact .inr ⟨vid, 0, false, by rw [hrl], rd_full hh (ms_lenU _)⟩
              have U := U.app G
              have U3 := U.r3
              have U8 := U.r8
              have j3 := rd_lt U3
              have j8 := rd_lt U8
              have jL := (List.getElem?_eq_some_iff.1 U.rL).1
              have hlv : ∀ (ev : AOpd → AV) (x : AOpd) (h : Heap), ev x = lv → (AOp.len x).den ev h = .ok True (.int .i64 xs.length) h := by
                intro ev x h hx
                rcases U.rl with ⟨rfl, rfl⟩ | ⟨_, rfl, _⟩ <;> simp [AOp.den, AOp.fx, hx]
              generalize Y ++ G = Z at *
              repeat (first|(with_reducible first|apply X1|apply X2|apply X4|apply X8|apply Y1|apply Y4|apply Y6)|((with_reducible apply e_end);(simp;exact Red.rfl))|((with_reducible apply O1);rfl;(simp (disch:=omega) [U3];exact Red.rfl);exact Red.rfl;(focus (first|(simp;done)|omega|(simp;omega))))|((with_reducible apply W3);(simp (disch:=omega) [U3];exact Red.rfl)))
              (with_reducible apply e_call); (simp; exact Red.rfl); exact c_NarrowX _ l id off ex rs v U.r0 hv hSl ⟨by omega, okr⟩ gL gF
              rintro _ _ ⟨rfl, rfl⟩
              rw [hsame]
              repeat (first|(with_reducible first|apply X1|apply X2|apply X8)|((with_reducible apply e_end);(simp;exact Red.rfl))|((first|((with_reducible apply O1);rfl)|((with_reducible apply O2);rfl));(simp (disch:=omega);exact Red.rfl);exact Red.rfl;(focus (first|(simp;done)|omega|(simp;omega))))|((with_reducible apply Z7);(simp (disch:=omega);exact Red.rfl)))
              refine e_op (op := .len _) rfl (hlv _ _ _ rfl) Red.rfl trivial ?_
              repeat (first|((with_reducible apply O1);rfl;(simp (disch:=omega) [rd_old _ j8, U8];exact Red.rfl);exact Red.rfl;(focus (first|(simp;done)|omega|(simp;omega))))|((with_reducible apply Z7);(simp (disch:=omega) [rd_old _ j8, U8];exact Red.rfl)))
              (with_reducible apply e_call); (simp; exact Red.rfl); exact c_SameT _ (lefS l ms) l.length Z.length (H.length + 1) true true false false (by simp [at_new, at_new0]) (by rw [List.getElem?_append_left jL]; exact U.rL) (by omega)
              rintro _ _ ⟨rfl, rfl⟩
              repeat (first|(with_reducible first|apply X3|apply X8)|((with_reducible apply e_end);(simp;exact Red.rfl))|((with_reducible apply O1);rfl;(simp (disch:=omega);exact Red.rfl);exact Red.rfl;(focus (first|(simp;done)|omega|(simp;omega)))))
              exact q_stay (.inr rfl) (by simp; exact Red.rfl) rfl
end Go.Proofs
