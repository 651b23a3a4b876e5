/- The law TrackKept. -/
import Derived.Test.YthhhmbkbfpcojaaG7
import Derived.Test.YthhhmbkbfpcojaaRunTrackAlive
namespace Go.Proofs
open Go.Abs
attribute [local simp] AOp.den AOpd.ev lk cellsOf rd_new rd_new0 rd_zero rd_succ wr_new wr_new0 wr_zero wr_succ splice fillA binA scal sliceCells List.length_append argsT AV.sc scL AObj.sc resV getAll AR.get AOp.slots opdSlots opdsSlots partSlots eqAt at_new0 at_new set_new0 set_new wrap64
set_option linter.unusedSimpArgs false
set_option linter.unusedVariables false
theorem c_aliveK (H : Heap) : ACalls Try.prog F.law01_alive [] H (fun v h => v = .bool true ∧ h = H) := Try.true15 H
theorem le_ext {H G : Heap} {s s' : St} (hG : ∀ o ∈ G, o.sc (H.length + G.length) = true) (h : Le (H ++ G) s s') : Le H s s' := by
  obtain ⟨n, ρ, h1, h2, h3, h4⟩ := h
  simp only [List.length_append] at n h1
  refine ⟨by omega, ρ, fun i hi => h1 i (by omega), fun i o hi => ?_, h3, h4⟩
  rcases h2 i o hi with h | ⟨h5, h6⟩ | h
  · exact .inl h
  · rcases Nat.lt_or_ge i H.length with h | h
    · rw [List.getElem?_append_left h] at h5
      exact .inr (.inl ⟨h5, h6⟩)
    · rw [List.getElem?_append_right h] at h5
      have h7 := hG o (List.mem_of_getElem? h5)
      have h8 := (List.getElem?_eq_some_iff.1 h5).1
      refine .inr (.inr ⟨asc_mono n o h7, ?_⟩)
      rw [h1 i (by omega), aren_id (m := H.length + G.length) (fun i hi => h1 i hi) o h7]
      exact h6
  · exact .inr (.inr h)
theorem longK_in {l : List Str} (hv : validL l) (us : List Int) {j : Nat} (hj : j < l.length) : kLo kLong l j ≤ longF us l j ∧ longF us l j ≤ kHi kLong l j ∧ 0 ≤ longF us l j ∧ longF us l j ≤ 30000 := by
  have ho := (hv.2 j hj).2.1.2.2.1
  have e := strAt_eq hj
  have := someF_in (b := chooseF us (2 * j)) (show (strAt l j).lLo ≤ (strAt l j).lHi by rw [e]; exact ho.1)
  simp only [kLo, kHi, kLong, longF]
  rw [e] at this ⊢
  omega
theorem fallK_in {l : List Str} (hv : validL l) (us : List Int) {j : Nat} (hj : j < l.length) : kLo kFall l j ≤ fallF us l j ∧ fallF us l j ≤ kHi kFall l j ∧ 0 ≤ fallF us l j ∧ fallF us l j ≤ 30000 := by
  have ho := (hv.2 j hj).2.1.2.2.2.1
  have e := strAt_eq hj
  have := someF_in (b := chooseF us (2 * j + 1)) (show (strAt l j).fLo ≤ (strAt l j).fHi by rw [e]; exact ho.1)
  simp only [kLo, kHi, kFall, fallF]
  rw [e] at this ⊢
  omega
theorem sum_sub (f : Nat → Int) {a b : Nat} (h : a ≤ b) : sumF f 0 b - sumF f 0 a = sumF f a (b - a) := by
  have := sumF_add f 0 a (b - a)
  rw [show a + (b - a) = b by omega, Nat.zero_add] at this
  omega
theorem true_long {l : List Str} (hv : validL l) (us : List Int) {ms : List Ms} (hm : ∀ i (h : i < ms.length), ms[i].ok l.length ∧ tells (longF us l) (fallF us l) ms[i]) : SatK kLong l ms (sumF (longF us l) 0) := by
  refine ⟨fun j hj => ?_, fun i h hk => ?_⟩
  · have := longK_in hv us hj
    rw [sum_sub _ (by omega), show j + 1 - j = 1 by omega]
    simp only [sumF, Nat.add_zero, Int.zero_add]
    omega
  · obtain ⟨⟨_, o1, o2, _⟩, ht⟩ := hm i h
    rw [sum_sub _ (by omega)]
    rcases ht with ⟨_, h1, h2⟩ | ⟨h1, _⟩
    · exact ⟨h1, h2⟩
    · rw [h1] at hk; exact absurd hk (by decide)
theorem true_fall {l : List Str} (hv : validL l) (us : List Int) {ms : List Ms} (hm : ∀ i (h : i < ms.length), ms[i].ok l.length ∧ tells (longF us l) (fallF us l) ms[i]) : SatK kFall l ms (sumF (fallF us l) 0) := by
  refine ⟨fun j hj => ?_, fun i h hk => ?_⟩
  · have := fallK_in hv us hj
    rw [sum_sub _ (by omega), show j + 1 - j = 1 by omega]
    simp only [sumF, Nat.add_zero, Int.zero_add]
    omega
  · obtain ⟨⟨_, o1, o2, _⟩, ht⟩ := hm i h
    rw [sum_sub _ (by omega)]
    rcases ht with ⟨h1, _⟩ | ⟨_, h1, h2⟩
    · rw [h1] at hk; exact absurd hk (by decide)
    · exact ⟨h1, h2⟩
/-- A potential is within what is left; single stretches that are measured, too. -/
theorem left_in {k : Kind} {l : List Str} {ms : List Ms} (hm : ∀ i (h : i < ms.length), ms[i].ok l.length) {f : Nat → Int} (hs : SatK k l ms (sumF f 0)) {j : Nat} (hj : j < l.length) : -closeK k l ms (j + 1) j ≤ f j ∧ f j ≤ closeK k l ms j (j + 1) := by
  have h := (closeK_sat hm).2 hs
  have h1 := h j (j + 1) (by omega) (by omega)
  have h2 := h (j + 1) j (by omega) (by omega)
  simp only [sumF, Nat.zero_add] at h1 h2
  omega
theorem left_ms {k : Kind} (hk : k.OK) {l : List Str} (hv : validL l) {ms : List Ms} (hm : ∀ i (h : i < ms.length), ms[i].ok l.length) (hg : goodK k l ms) {i j : Nat} (hi : i < ms.length) (hj : j < l.length) (hki : ms[i].k = k.num) (hf : ms[i].f = j) (ht : ms[i].t = (j : Int) + 1) :
    ms[i].lo ≤ -closeK k l ms (j + 1) j ∧ closeK k l ms j (j + 1) ≤ ms[i].hi := by
  have h1 := (row_sat hm hg (show j ≤ l.length by omega)).2 i hi hki
  have h2 := (row_sat hm hg (show j + 1 ≤ l.length by omega)).2 i hi hki
  have d1 := closeK_diag hk hv hm hg (show j ≤ l.length by omega)
  have d2 := closeK_diag hk hv hm hg (show j + 1 ≤ l.length by omega)
  have e1 : ms[i].f.toNat = j := by omega
  have e2 : ms[i].t.toNat = j + 1 := by omega
  rw [e1, e2] at h1 h2
  omega
theorem mv_sl {H : Heap} {many : Nat} {ms : List Ms} (hl : ms.length = many) : SlM (H ++ mmT many ms) (slT H many) ms := by
  by_cases h : many = 0
  · subst h
    obtain rfl : ms = [] := List.length_eq_zero_iff.1 hl
    exact .inl ⟨rfl, rfl⟩
  · refine .inr ⟨H.length, 0, false, by simp [slT, h, hl], ?_⟩
    simp only [mmT, if_neg h]
    exact rd_full (b := true) (by rw [List.getElem?_append_right (Nat.le_refl _)]; simp) (ms_len ms)
theorem mm_sc {many : Nat} {ms : List Ms} (n : Nat) : ∀ o ∈ mmT many ms, o.sc n = true := by
  intro o ho
  simp only [mmT] at ho
  split at ho
  · cases ho
  · simp only [List.mem_singleton] at ho
    subst ho
    exact (plain_ms ms).sc n

set_option maxHeartbeats 4000000 in
theorem c_lawKept (H : Heap) (l : List Str) (us : List Int) (id off bid boff : Nat) (ex bex : Bool) (hs : rd H id off (l.length * 9) = some (l.flatMap Str.av))
    (hb : rd H bid boff us.length = some (us.map (.int .u32))) (hu : ∀ u ∈ us, 0 ≤ u ∧ u ≤ 4294967295) (hn : (us.length : Int) ≤ 9223372036854775807) :
    ACalls Try.prog F.law01_TrackKept [.agg [.slice id off l.length 9 ex], .slice bid boff us.length 1 bex] H (fun v _ => v = .bool true) := by
  refine acalls_of ok_law01_TrackKept rfl fun hcl => ?_
  unfold ac_law01_TrackKept
  simp only [argsT, Nat.zero_add, Nat.reduceAdd]
  have hid := rd_lt hs
  have hbid := rd_lt hb
  repeat (first
   |(with_reducible first|apply X1|apply X2|apply X3|apply X4|apply X5|apply X6|apply X7|apply X8|apply X9|apply Y1|apply Y2|apply Y3|apply Y4|apply Y5|apply Y6|apply Y7|apply Y8|apply Y9)
   |((with_reducible apply q_block_other);decide)
   |((with_reducible first|apply e_end|apply d_end);(simp;exact Red.rfl))
   |((first|((with_reducible apply O1);rfl)|((with_reducible apply O2);rfl)|((with_reducible apply P1);rfl)|((with_reducible apply P2);rfl)|((with_reducible apply P3);rfl)|((with_reducible apply P4);rfl)|((with_reducible apply P5);rfl));(simp (disch:=omega);exact Red.rfl);exact Red.rfl;(focus (first|(simp;done)|omega|(simp;omega))))
   |((with_reducible first|apply Z7|apply Z8|apply Z9);(simp (disch:=omega);exact Red.rfl))
   |((with_reducible first|apply Z1|apply Z2|apply Z3|apply Z4|apply Z5|apply Z6);(simp (disch:=omega);exact Red.rfl))
   |((with_reducible first|apply W1|apply W2|apply W3);(simp (disch:=omega);exact Red.rfl))
   |((with_reducible apply P6);rfl;(simp (disch:=omega);exact Red.rfl);exact Red.rfl;(focus (first|(simp [pr];done)|(simp [pr];omega))))
   |((with_reducible apply P7);rfl;(simp (disch:=omega);exact Red.rfl);exact Red.rfl;(focus (simp [repast, pr, AOp.sem];done))))
  (with_reducible apply e_call); (simp; exact Red.rfl); exact c_aliveK _
  rintro _ _ ⟨rfl, rfl⟩
  repeat (first
   |(with_reducible first|apply X1|apply X2|apply X3|apply X4|apply X5|apply X6|apply X7|apply X8|apply X9|apply Y1|apply Y2|apply Y3|apply Y4|apply Y5|apply Y6|apply Y7|apply Y8|apply Y9)
   |((with_reducible apply q_block_other);decide)
   |((with_reducible first|apply e_end|apply d_end);(simp;exact Red.rfl))
   |((first|((with_reducible apply O1);rfl)|((with_reducible apply O2);rfl)|((with_reducible apply P1);rfl)|((with_reducible apply P2);rfl)|((with_reducible apply P3);rfl)|((with_reducible apply P4);rfl)|((with_reducible apply P5);rfl));(simp (disch:=omega);exact Red.rfl);exact Red.rfl;(focus (first|(simp;done)|omega|(simp;omega))))
   |((with_reducible first|apply Z7|apply Z8|apply Z9);(simp (disch:=omega);exact Red.rfl))
   |((with_reducible first|apply Z1|apply Z2|apply Z3|apply Z4|apply Z5|apply Z6);(simp (disch:=omega);exact Red.rfl))
   |((with_reducible first|apply W1|apply W2|apply W3);(simp (disch:=omega);exact Red.rfl))
   |((with_reducible apply P6);rfl;(simp (disch:=omega);exact Red.rfl);exact Red.rfl;(focus (first|(simp [pr];done)|(simp [pr];omega))))
   |((with_reducible apply P7);rfl;(simp (disch:=omega);exact Red.rfl);exact Red.rfl;(focus (simp [repast, pr, AOp.sem];done))))
  (with_reducible apply e_call); (simp; exact Red.rfl); exact c_ready _ l id off ex (by rw [rd_old _ hid]; exact hs)
  rintro _ _ ⟨rfl, b, rfl, hbv⟩
  cases b with
  | false =>
    repeat (first
     |(with_reducible first|apply X1|apply X2|apply X3|apply X4|apply X5|apply X6|apply X7|apply X8|apply X9|apply Y1|apply Y2|apply Y3|apply Y4|apply Y5|apply Y6|apply Y7|apply Y8|apply Y9)
     |((with_reducible apply q_block_other);decide)
     |((with_reducible first|apply e_end|apply d_end);(simp;exact Red.rfl))
     |((first|((with_reducible apply O1);rfl)|((with_reducible apply O2);rfl)|((with_reducible apply P1);rfl)|((with_reducible apply P2);rfl)|((with_reducible apply P3);rfl)|((with_reducible apply P4);rfl)|((with_reducible apply P5);rfl));(simp (disch:=omega);exact Red.rfl);exact Red.rfl;(focus (first|(simp;done)|omega|(simp;omega))))
     |((with_reducible first|apply Z7|apply Z8|apply Z9);(simp (disch:=omega);exact Red.rfl))
     |((with_reducible first|apply Z1|apply Z2|apply Z3|apply Z4|apply Z5|apply Z6);(simp (disch:=omega);exact Red.rfl))
     |((with_reducible first|apply W1|apply W2|apply W3);(simp (disch:=omega);exact Red.rfl))
     |((with_reducible apply P6);rfl;(simp (disch:=omega);exact Red.rfl);exact Red.rfl;(focus (first|(simp [pr];done)|(simp [pr];omega))))
     |((with_reducible apply P7);rfl;(simp (disch:=omega);exact Red.rfl);exact Red.rfl;(focus (simp [repast, pr, AOp.sem];done))))
    exact q_drop (.inr rfl) (by simp; exact Red.rfl) (by simp) rfl
  | true =>
    have hv := hbv.1 rfl
    have h12 := hv.1
    have lin : ∀ j, j < l.length → 0 ≤ longF us l j ∧ longF us l j ≤ 30000 := fun j hj => (longK_in hv us hj).2.2
    have fin : ∀ j, j < l.length → 0 ≤ fallF us l j ∧ fallF us l j ≤ 30000 := fun j hj => (fallK_in hv us hj).2.2
    repeat (first
     |(with_reducible first|apply X1|apply X2|apply X3|apply X4|apply X5|apply X6|apply X7|apply X8|apply X9|apply Y1|apply Y2|apply Y3|apply Y4|apply Y5|apply Y6|apply Y7|apply Y8|apply Y9)
     |((with_reducible apply q_block_other);decide)
     |((with_reducible first|apply e_end|apply d_end);(simp;exact Red.rfl))
     |((first|((with_reducible apply O1);rfl)|((with_reducible apply O2);rfl)|((with_reducible apply P1);rfl)|((with_reducible apply P2);rfl)|((with_reducible apply P3);rfl)|((with_reducible apply P4);rfl)|((with_reducible apply P5);rfl));(simp (disch:=omega);exact Red.rfl);exact Red.rfl;(focus (first|(simp;done)|omega|(simp;omega))))
     |((with_reducible first|apply Z7|apply Z8|apply Z9);(simp (disch:=omega);exact Red.rfl))
     |((with_reducible first|apply Z1|apply Z2|apply Z3|apply Z4|apply Z5|apply Z6);(simp (disch:=omega);exact Red.rfl))
     |((with_reducible first|apply W1|apply W2|apply W3);(simp (disch:=omega);exact Red.rfl))
     |((with_reducible apply P6);rfl;(simp (disch:=omega);exact Red.rfl);exact Red.rfl;(focus (first|(simp [pr];done)|(simp [pr];omega))))
     |((with_reducible apply P7);rfl;(simp (disch:=omega);exact Red.rfl);exact Red.rfl;(focus (simp [repast, pr, AOp.sem];done))))
    (with_reducible apply e_call); (simp; exact Red.rfl); exact c_truth _ l us id off bid boff ex bex (by rw [rd_old _ hid]; exact hs) hv (by rw [rd_old _ hbid]; exact hb) hu hn
    rintro _ _ ⟨rfl, rfl⟩
    obtain ⟨many, hmany, hmany2⟩ := mod_lt (n := 13) (chooseF_ge hu 40).1 (by omega)
    rw [show ((13 : Nat) : Int) = 13 from rfl] at hmany
    repeat (first
     |(with_reducible first|apply X1|apply X2|apply X3|apply X4|apply X5|apply X6|apply X7|apply X8|apply X9|apply Y1|apply Y2|apply Y3|apply Y4|apply Y5|apply Y6|apply Y7|apply Y8|apply Y9)
     |((with_reducible apply q_block_other);decide)
     |((with_reducible first|apply e_end|apply d_end);(simp;exact Red.rfl))
     |((first|((with_reducible apply O1);rfl)|((with_reducible apply O2);rfl)|((with_reducible apply P1);rfl)|((with_reducible apply P2);rfl)|((with_reducible apply P3);rfl)|((with_reducible apply P4);rfl)|((with_reducible apply P5);rfl));(simp (disch:=omega);exact Red.rfl);exact Red.rfl;(focus (first|(simp;done)|omega|(simp;omega))))
     |((with_reducible first|apply Z7|apply Z8|apply Z9);(simp (disch:=omega);exact Red.rfl))
     |((with_reducible first|apply Z1|apply Z2|apply Z3|apply Z4|apply Z5|apply Z6);(simp (disch:=omega);exact Red.rfl))
     |((with_reducible first|apply W1|apply W2|apply W3);(simp (disch:=omega);exact Red.rfl))
     |((with_reducible apply P6);rfl;(simp (disch:=omega);exact Red.rfl);exact Red.rfl;(focus (first|(simp [pr];done)|(simp [pr];omega))))
     |((with_reducible apply P7);rfl;(simp (disch:=omega);exact Red.rfl);exact Red.rfl;(focus (simp [repast, pr, AOp.sem];done))))
    (with_reducible apply e_call); (simp; exact Red.rfl); exact c_choose _ us bid boff bex 40 (by rw [rd_old _ hbid]; exact hb) hu (by omega) (by omega) hn
    rintro _ _ ⟨rfl, rfl⟩
    repeat (first
     |(with_reducible first|apply X1|apply X2|apply X3|apply X4|apply X5|apply X6|apply X7|apply X8|apply X9|apply Y1|apply Y2|apply Y3|apply Y4|apply Y5|apply Y6|apply Y7|apply Y8|apply Y9)
     |((with_reducible apply q_block_other);decide)
     |((with_reducible first|apply e_end|apply d_end);(simp;exact Red.rfl))
     |((first|((with_reducible apply O1);rfl)|((with_reducible apply O2);rfl)|((with_reducible apply P1);rfl)|((with_reducible apply P2);rfl)|((with_reducible apply P3);rfl)|((with_reducible apply P4);rfl)|((with_reducible apply P5);rfl));(simp (disch:=omega) [hmany];exact Red.rfl);exact Red.rfl;(focus (first|(simp;done)|omega|(simp;omega))))
     |((with_reducible first|apply Z7|apply Z8|apply Z9);(simp (disch:=omega) [hmany];exact Red.rfl))
     |((with_reducible first|apply Z1|apply Z2|apply Z3|apply Z4|apply Z5|apply Z6);(simp (disch:=omega) [hmany];exact Red.rfl))
     |((with_reducible first|apply W1|apply W2|apply W3);(simp (disch:=omega) [hmany];exact Red.rfl))
     |((with_reducible apply P6);rfl;(simp (disch:=omega) [hmany];exact Red.rfl);exact Red.rfl;(focus (first|(simp [pr];done)|(simp [pr];omega))))
     |((with_reducible apply P7);rfl;(simp (disch:=omega) [hmany];exact Red.rfl);exact Red.rfl;(focus (simp [repast, pr, AOp.sem];done))))
    (with_reducible apply e_call); (simp; exact Red.rfl); exact c_tell _ (longF us l) (fallF us l) l.length (H.length + 1) 0 (H.length + 2) 0 false false us bid boff bex many (rd_full (b := true) (by rw [at_new]; rfl) (avL_length _ _)) (rd_full (b := true) (by rw [at_new]; rfl) (avL_length _ _)) lin fin h12 (by rw [rd_old _ hbid]; exact hb) hu hn (by omega)
    rintro _ _ ⟨ms, hml, hms, rfl, rfl⟩
    have hm := fun i h => (hms i h).1
    have okm : okMs l.length ms := ⟨by omega, hm⟩
    have tl := true_long hv us hms
    have tf := true_fall hv us hms
    obtain ⟨H2, hH2⟩ : ∃ H2, H2 = H ++ [.cells [.slice id off l.length 9 ex] true, .cells (avL (longF us l) l.length) true, .cells (avL (fallF us l) l.length) true] ++ mmT many ms := ⟨_, rfl⟩
    have hext : ∀ s s', Le H2 s s' → Le H s s' := fun s s' h => by
      rw [hH2] at h
      exact le_ext (mem3 (by simp; omega) (by simp [avL_sc]) (by simp [avL_sc])) (le_ext (mm_sc _) h)
    have hmv : SlM H2 (slT (H ++ [.cells [.slice id off l.length 9 ex] true, .cells (avL (longF us l) l.length) true, .cells (avL (fallF us l) l.length) true]) many) ms := by rw [hH2]; exact mv_sl hml
    have hlen2 : H.length + 3 ≤ H2.length := by rw [hH2]; simp
    have o0 : ∀ k, k < 3 → H2[H.length + k]? = [AObj.cells [.slice id off l.length 9 ex] true, .cells (avL (longF us l) l.length) true, .cells (avL (fallF us l) l.length) true][k]? := fun k hk => by
      rw [hH2, List.getElem?_append_left (by simp; omega), List.getElem?_append_right (by omega)]; simp
    have f0 : rd H2 H.length 0 1 = some [.slice id off l.length 9 ex] := rd_full (o0 0 (by omega)) rfl
    have fL : ∀ i, i < l.length → rd H2 (H.length + 1) i 1 = some [.int .i64 (longF us l i)] := fun i hi => by
      have h := o0 1 (by omega)
      have h2 := (plain_r1 (longF us l)).rd (H := H2) (id := H.length + 1) (b := true) (by rw [← avL_eq]; exact h) hi
      simpa [r1] using h2
    have fF : ∀ i, i < l.length → rd H2 (H.length + 1 + 1) i 1 = some [.int .i64 (fallF us l i)] := fun i hi => by
      have h := o0 2 (by omega)
      have h2 := (plain_r1 (fallF us l)).rd (H := H2) (id := H.length + 2) (b := true) (by rw [← avL_eq]; exact h) hi
      simpa [r1] using h2
    have hs2 : rd H2 id off (l.length * 9) = some (l.flatMap Str.av) := by rw [hH2, List.append_assoc, rd_old _ hid]; exact hs
    have hid2 := rd_lt hs2
    have hbx : H.length < H2.length := by omega
    have hla : H.length + 1 < H2.length := by omega
    have hfa : H.length + 1 + 1 < H2.length := by omega
    rw [← hH2]
    generalize slT (H ++ [.cells [.slice id off l.length 9 ex] true, .cells (avL (longF us l) l.length) true, .cells (avL (fallF us l) l.length) true]) many = mv at *
    clear o0 hH2 hlen2 hbid hid hs hb hbv
    generalize H.length + 1 + 1 = fa at *
    generalize H.length + 1 = la at *
    generalize H.length = bx at *
    have hsc : ∀ j, mv.sc (H2.length + j) = true := fun j => hmv.sc (Nat.le_add_right _ _)
    have hsc0 : mv.sc H2.length = true := hmv.sc (Nat.le_refl _)
    repeat (first
     |(with_reducible first|apply X1|apply X2|apply X3|apply X4|apply X5|apply X6|apply X7|apply X8|apply X9|apply Y1|apply Y2|apply Y3|apply Y4|apply Y5|apply Y6|apply Y7|apply Y8|apply Y9)
     |((with_reducible apply q_block_other);decide)
     |((with_reducible first|apply e_end|apply d_end);(simp;exact Red.rfl))
     |((first|((with_reducible apply O1);rfl)|((with_reducible apply O2);rfl)|((with_reducible apply P1);rfl)|((with_reducible apply P2);rfl)|((with_reducible apply P3);rfl)|((with_reducible apply P4);rfl)|((with_reducible apply P5);rfl));(simp (disch:=omega) [f0];exact Red.rfl);exact Red.rfl;(focus (first|(simp;done)|omega|(simp;omega))))
     |((with_reducible first|apply Z7|apply Z8|apply Z9);(simp (disch:=omega) [f0];exact Red.rfl))
     |((with_reducible first|apply Z1|apply Z2|apply Z3|apply Z4|apply Z5|apply Z6);(simp (disch:=omega) [f0];exact Red.rfl))
     |((with_reducible first|apply W1|apply W2|apply W3);(simp (disch:=omega) [f0];exact Red.rfl))
     |((with_reducible apply P6);rfl;(simp (disch:=omega) [f0];exact Red.rfl);exact Red.rfl;(focus (first|(simp [pr];done)|(simp [pr];omega))))
     |((with_reducible apply P7);rfl;(simp (disch:=omega) [f0];exact Red.rfl);exact Red.rfl;(focus (simp [repast, pr, AOp.sem];done))))
    (with_reducible apply e_call); (simp; exact Red.rfl); exact c_Narrow _ l id off ex ms mv hs2 hv hmv (by omega) okm
    rintro _ _ (⟨rfl, hgL, hgF, rfl⟩ | ⟨rfl, rfl, hbad | hbad⟩)
    rotate_left
    · exact absurd tl (bad_sat hbad hm _)
    · exact absurd tf (bad_sat hbad hm _)
    have pS := plain_fun (lefS l ms)
    have pl := pS.plain l.length
    have ll := pS.length l.length
    repeat (first
     |(with_reducible first|apply X1|apply X2|apply X3|apply X4|apply X5|apply X6|apply X7|apply X8|apply X9|apply Y1|apply Y2|apply Y3|apply Y4|apply Y5|apply Y6|apply Y7|apply Y8|apply Y9)
     |((with_reducible apply q_block_other);decide)
     |((with_reducible first|apply e_end|apply d_end);(simp;exact Red.rfl))
     |((first|((with_reducible apply O1);rfl)|((with_reducible apply O2);rfl)|((with_reducible apply P1);rfl)|((with_reducible apply P2);rfl)|((with_reducible apply P3);rfl)|((with_reducible apply P4);rfl)|((with_reducible apply P5);rfl));(simp (disch:=omega) [rd_old _ hbx, f0];exact Red.rfl);exact Red.rfl;(focus (first|(simp;done)|omega|(simp;omega))))
     |((with_reducible first|apply Z7|apply Z8|apply Z9);(simp (disch:=omega) [rd_old _ hbx, f0];exact Red.rfl))
     |((with_reducible first|apply Z1|apply Z2|apply Z3|apply Z4|apply Z5|apply Z6);(simp (disch:=omega) [rd_old _ hbx, f0];exact Red.rfl))
     |((with_reducible first|apply W1|apply W2|apply W3);(simp (disch:=omega) [rd_old _ hbx, f0];exact Red.rfl))
     |((with_reducible apply P6);rfl;(simp (disch:=omega) [rd_old _ hbx, f0];exact Red.rfl);exact Red.rfl;(focus (first|(simp [pr];done)|(simp [pr];omega))))
     |((with_reducible apply P7);rfl;(simp (disch:=omega) [rd_old _ hbx, f0];exact Red.rfl);exact Red.rfl;(focus (simp [repast, pr, AOp.sem];done))))
    refine e_loop (ι := { i : Nat // i ≤ l.length })
      (fun i => [(2, .ptr bx 0), (5, .bool true), (6, .slice la 0 l.length 1 false), (7, .slice fa 0 l.length 1 false), (8, mv), (57, .slice H2.length 0 l.length 9 false), (58, .int .i64 l.length), (59, .int .i64 i.1)])
      (fun _ => H2 ++ [.cells (avR (fun j => (lefS l ms j).av) l.length) true]) (fun i => l.length - i.1) ⟨0, by omega⟩ ?_ ?_
    · exact .inr <| hext _ _ <| le_take (G := [_]) (by simp [pl.sc]) (by simp [Red, hsc]; omega)
    rintro ⟨i, hi⟩
    dsimp only
    by_cases hil : i < l.length
    rotate_left
    · have hil2 : ¬ (i : Int) < l.length := by omega
      repeat (first
       |(with_reducible first|apply X1|apply X2|apply X3|apply X4|apply X5|apply X6|apply X7|apply X8|apply X9|apply Y1|apply Y2|apply Y3|apply Y4|apply Y5|apply Y6|apply Y7|apply Y8|apply Y9)
       |((with_reducible apply q_block_other);decide)
       |((with_reducible first|apply e_end|apply d_end);(simp;exact Red.rfl))
       |((first|((with_reducible apply O1);rfl)|((with_reducible apply O2);rfl)|((with_reducible apply P1);rfl)|((with_reducible apply P2);rfl)|((with_reducible apply P3);rfl)|((with_reducible apply P4);rfl)|((with_reducible apply P5);rfl));(simp (disch:=omega) [hil2];exact Red.rfl);exact Red.rfl;(focus (first|(simp;done)|omega|(simp;omega))))
       |((with_reducible first|apply Z7|apply Z8|apply Z9);(simp (disch:=omega) [hil2];exact Red.rfl))
       |((with_reducible first|apply Z1|apply Z2|apply Z3|apply Z4|apply Z5|apply Z6);(simp (disch:=omega) [hil2];exact Red.rfl))
       |((with_reducible first|apply W1|apply W2|apply W3);(simp (disch:=omega) [hil2];exact Red.rfl))
       |((with_reducible apply P6);rfl;(simp (disch:=omega) [hil2];exact Red.rfl);exact Red.rfl;(focus (first|(simp [pr];done)|(simp [pr];omega))))
       |((with_reducible apply P7);rfl;(simp (disch:=omega) [hil2];exact Red.rfl);exact Red.rfl;(focus (simp [repast, pr, AOp.sem];done))))
      refine q_stay (.inr rfl) (by simp; exact Red.rfl) rfl
    have hil2 : (i : Int) < l.length := by omega
    have hx := rd_row Str.av_length hs2 hil
    have hst := strAt_eq hil
    have ho := (hv.2 i hil).2.1
    have iL := left_in hm tl hil
    have iF := left_in hm tf hil
    have cL : (strAt l i).lLo ≤ -closeK kLong l ms (i + 1) i ∧ -closeK kLong l ms (i + 1) i ≤ closeK kLong l ms i (i + 1) ∧ closeK kLong l ms i (i + 1) ≤ (strAt l i).lHi := closeK_in (k := kLong) hm hgL hil
    have cF : (strAt l i).fLo ≤ -closeK kFall l ms (i + 1) i ∧ -closeK kFall l ms (i + 1) i ≤ closeK kFall l ms i (i + 1) ∧ closeK kFall l ms i (i + 1) ≤ (strAt l i).fHi := closeK_in (k := kFall) hm hgF hil
    have mL := fun (j : Nat) (hj : j < ms.length) => left_ms kLong_ok hv hm hgL hj hil
    have mF := fun (j : Nat) (hj : j < ms.length) => left_ms kFall_ok hv hm hgF hj hil
    have hrow := pS.row hil
    have hL := fL i hil
    have hF := fF i hil
    have l2 : i * 9 + 9 ≤ l.length * 9 := by omega
    have hsr : lefS l ms i = putF (putL (strAt l i) (-closeK kLong l ms (i + 1) i) (closeK kLong l ms i (i + 1))) (-closeK kFall l ms (i + 1) i) (closeK kFall l ms i (i + 1)) := by simp only [lefS, lefL, if_pos hil]
    generalize hsi : l[i] = s at hx ho hst
    rw [hst] at cL cF
    simp only [hsr, hst] at hrow
    obtain ⟨a1, a2, a3, a4, a5, a6, a7, a8, a9⟩ := s
    have hrow2 := hrow.trans (show _ = [AV.int .i64 a1, .int .i64 (-closeK kLong l ms (i + 1) i), .int .i64 (closeK kLong l ms i (i + 1)), .int .i64 (-closeK kFall l ms (i + 1) i), .int .i64 (closeK kFall l ms i (i + 1)), .int .i64 a6, .int .i64 a7, .int .u8 a8, .int .i64 a9] from rfl)
    clear hrow
    simp only [Str.av] at hx
    dsimp only at cL cF
    generalize closeK kLong l ms (i + 1) i = q1 at *
    generalize closeK kLong l ms i (i + 1) = q2 at *
    generalize closeK kFall l ms (i + 1) i = q3 at *
    generalize closeK kFall l ms i (i + 1) = q4 at *
    generalize longF us l i = x1 at *
    generalize fallF us l i = x2 at *
    have hx' := hx
    repeat (first
     |(with_reducible first|apply X1|apply X2|apply X3|apply X4|apply X5|apply X6|apply X7|apply X8|apply X9|apply Y1|apply Y2|apply Y3|apply Y4|apply Y5|apply Y6|apply Y7|apply Y8|apply Y9)
     |((with_reducible apply q_block_other);decide)
     |((with_reducible first|apply e_end|apply d_end);(simp;exact Red.rfl))
     |((first|((with_reducible apply O1);rfl)|((with_reducible apply O2);rfl)|((with_reducible apply P1);rfl)|((with_reducible apply P2);rfl)|((with_reducible apply P3);rfl)|((with_reducible apply P4);rfl)|((with_reducible apply P5);rfl));(simp (disch:=omega) [hil, hil2, ll, l2, hrow2, rd_old _ hbx, f0, rd_old _ hid2, hx, rd_old _ hla, hL];exact Red.rfl);exact Red.rfl;(focus (first|(simp;done)|omega|(simp;omega))))
     |((with_reducible first|apply Z7|apply Z8|apply Z9);(simp (disch:=omega) [hil, hil2, ll, l2, hrow2, rd_old _ hbx, f0, rd_old _ hid2, hx, rd_old _ hla, hL];exact Red.rfl))
     |((with_reducible first|apply Z1|apply Z2|apply Z3|apply Z4|apply Z5|apply Z6);(simp (disch:=omega) [hil, hil2, ll, l2, hrow2, rd_old _ hbx, f0, rd_old _ hid2, hx, rd_old _ hla, hL];exact Red.rfl))
     |((with_reducible first|apply W1|apply W2|apply W3);(simp (disch:=omega) [hil, hil2, ll, l2, hrow2, rd_old _ hbx, f0, rd_old _ hid2, hx, rd_old _ hla, hL];exact Red.rfl))
     |((with_reducible apply P6);rfl;(simp (disch:=omega) [hil, hil2, ll, l2, hrow2, rd_old _ hbx, f0, rd_old _ hid2, hx, rd_old _ hla, hL];exact Red.rfl);exact Red.rfl;(focus (first|(simp [pr];done)|(simp [pr];omega))))
     |((with_reducible apply P7);rfl;(simp (disch:=omega) [hil, hil2, ll, l2, hrow2, rd_old _ hbx, f0, rd_old _ hid2, hx, rd_old _ hla, hL];exact Red.rfl);exact Red.rfl;(focus (simp [repast, pr, AOp.sem];done))))
    (with_reducible apply d_call); (simp; exact Red.rfl); exact c_inside _ _ _ _ (b := true) (by simp; omega); (focus (first | (simp; done) | (simp; omega)))
    repeat (first
     |(with_reducible first|apply X1|apply X2|apply X3|apply X4|apply X5|apply X6|apply X7|apply X8|apply X9|apply Y1|apply Y2|apply Y3|apply Y4|apply Y5|apply Y6|apply Y7|apply Y8|apply Y9)
     |((with_reducible apply q_block_other);decide)
     |((with_reducible first|apply e_end|apply d_end);(simp;exact Red.rfl))
     |((first|((with_reducible apply O1);rfl)|((with_reducible apply O2);rfl)|((with_reducible apply P1);rfl)|((with_reducible apply P2);rfl)|((with_reducible apply P3);rfl)|((with_reducible apply P4);rfl)|((with_reducible apply P5);rfl));(simp (disch:=omega) [hil, hil2, rd_old _ hfa, hF];exact Red.rfl);exact Red.rfl;(focus (first|(simp;done)|omega|(simp;omega))))
     |((with_reducible first|apply Z7|apply Z8|apply Z9);(simp (disch:=omega) [hil, hil2, rd_old _ hfa, hF];exact Red.rfl))
     |((with_reducible first|apply Z1|apply Z2|apply Z3|apply Z4|apply Z5|apply Z6);(simp (disch:=omega) [hil, hil2, rd_old _ hfa, hF];exact Red.rfl))
     |((with_reducible first|apply W1|apply W2|apply W3);(simp (disch:=omega) [hil, hil2, rd_old _ hfa, hF];exact Red.rfl))
     |((with_reducible apply P6);rfl;(simp (disch:=omega) [hil, hil2, rd_old _ hfa, hF];exact Red.rfl);exact Red.rfl;(focus (first|(simp [pr];done)|(simp [pr];omega))))
     |((with_reducible apply P7);rfl;(simp (disch:=omega) [hil, hil2, rd_old _ hfa, hF];exact Red.rfl);exact Red.rfl;(focus (simp [repast, pr, AOp.sem];done))))
    (with_reducible apply d_call); (simp; exact Red.rfl); exact c_inside _ _ _ _ (b := true) (by simp; omega); (focus (first | (simp; done) | (simp; omega)))
    repeat (first
     |(with_reducible first|apply X1|apply X2|apply X3|apply X4|apply X5|apply X6|apply X7|apply X8|apply X9|apply Y1|apply Y2|apply Y3|apply Y4|apply Y5|apply Y6|apply Y7|apply Y8|apply Y9)
     |((with_reducible apply q_block_other);decide)
     |((with_reducible first|apply e_end|apply d_end);(simp;exact Red.rfl))
     |((first|((with_reducible apply O1);rfl)|((with_reducible apply O2);rfl)|((with_reducible apply P1);rfl)|((with_reducible apply P2);rfl)|((with_reducible apply P3);rfl)|((with_reducible apply P4);rfl)|((with_reducible apply P5);rfl));(simp (disch:=omega);exact Red.rfl);exact Red.rfl;(focus (first|(simp;done)|omega|(simp;omega))))
     |((with_reducible first|apply Z7|apply Z8|apply Z9);(simp (disch:=omega);exact Red.rfl))
     |((with_reducible first|apply Z1|apply Z2|apply Z3|apply Z4|apply Z5|apply Z6);(simp (disch:=omega);exact Red.rfl))
     |((with_reducible first|apply W1|apply W2|apply W3);(simp (disch:=omega);exact Red.rfl))
     |((with_reducible apply P6);rfl;(simp (disch:=omega);exact Red.rfl);exact Red.rfl;(focus (first|(simp [pr];done)|(simp [pr];omega))))
     |((with_reducible apply P7);rfl;(simp (disch:=omega);exact Red.rfl);exact Red.rfl;(focus (simp [repast, pr, AOp.sem];done))))
    (with_reducible apply d_call); (simp; exact Red.rfl); exact c_inside _ _ _ _ (b := true) (by simp; omega); (focus (first | (simp; done) | (simp; omega)))
    repeat (first
     |(with_reducible first|apply X1|apply X2|apply X3|apply X4|apply X5|apply X6|apply X7|apply X8|apply X9|apply Y1|apply Y2|apply Y3|apply Y4|apply Y5|apply Y6|apply Y7|apply Y8|apply Y9)
     |((with_reducible apply q_block_other);decide)
     |((with_reducible first|apply e_end|apply d_end);(simp;exact Red.rfl))
     |((first|((with_reducible apply O1);rfl)|((with_reducible apply O2);rfl)|((with_reducible apply P1);rfl)|((with_reducible apply P2);rfl)|((with_reducible apply P3);rfl)|((with_reducible apply P4);rfl)|((with_reducible apply P5);rfl));(simp (disch:=omega);exact Red.rfl);exact Red.rfl;(focus (first|(simp;done)|omega|(simp;omega))))
     |((with_reducible first|apply Z7|apply Z8|apply Z9);(simp (disch:=omega);exact Red.rfl))
     |((with_reducible first|apply Z1|apply Z2|apply Z3|apply Z4|apply Z5|apply Z6);(simp (disch:=omega);exact Red.rfl))
     |((with_reducible first|apply W1|apply W2|apply W3);(simp (disch:=omega);exact Red.rfl))
     |((with_reducible apply P6);rfl;(simp (disch:=omega);exact Red.rfl);exact Red.rfl;(focus (first|(simp [pr];done)|(simp [pr];omega))))
     |((with_reducible apply P7);rfl;(simp (disch:=omega);exact Red.rfl);exact Red.rfl;(focus (simp [repast, pr, AOp.sem];done))))
    (with_reducible apply d_call); (simp; exact Red.rfl); exact c_inside _ _ _ _ (b := true) (by simp; omega); (focus (first | (simp; done) | (simp; omega)))
    repeat (first
     |(with_reducible first|apply X1|apply X2|apply X3|apply X4|apply X5|apply X6|apply X7|apply X8|apply X9|apply Y1|apply Y2|apply Y3|apply Y4|apply Y5|apply Y6|apply Y7|apply Y8|apply Y9)
     |((with_reducible apply q_block_other);decide)
     |((with_reducible first|apply e_end|apply d_end);(simp;exact Red.rfl))
     |((first|((with_reducible apply O1);rfl)|((with_reducible apply O2);rfl)|((with_reducible apply P1);rfl)|((with_reducible apply P2);rfl)|((with_reducible apply P3);rfl)|((with_reducible apply P4);rfl)|((with_reducible apply P5);rfl));(simp (disch:=omega);exact Red.rfl);exact Red.rfl;(focus (first|(simp;done)|omega|(simp;omega))))
     |((with_reducible first|apply Z7|apply Z8|apply Z9);(simp (disch:=omega);exact Red.rfl))
     |((with_reducible first|apply Z1|apply Z2|apply Z3|apply Z4|apply Z5|apply Z6);(simp (disch:=omega);exact Red.rfl))
     |((with_reducible first|apply W1|apply W2|apply W3);(simp (disch:=omega);exact Red.rfl))
     |((with_reducible apply P6);rfl;(simp (disch:=omega);exact Red.rfl);exact Red.rfl;(focus (first|(simp [pr];done)|(simp [pr];omega))))
     |((with_reducible apply P7);rfl;(simp (disch:=omega);exact Red.rfl);exact Red.rfl;(focus (simp [repast, pr, AOp.sem];done))))
    (with_reducible apply d_call); (simp; exact Red.rfl); exact c_inside _ _ _ _ (b := true) (by simp; omega); (focus (first | (simp; done) | (simp; omega)))
    repeat (first
     |(with_reducible first|apply X1|apply X2|apply X3|apply X4|apply X5|apply X6|apply X7|apply X8|apply X9|apply Y1|apply Y2|apply Y3|apply Y4|apply Y5|apply Y6|apply Y7|apply Y8|apply Y9)
     |((with_reducible apply q_block_other);decide)
     |((with_reducible first|apply e_end|apply d_end);(simp;exact Red.rfl))
     |((first|((with_reducible apply O1);rfl)|((with_reducible apply O2);rfl)|((with_reducible apply P1);rfl)|((with_reducible apply P2);rfl)|((with_reducible apply P3);rfl)|((with_reducible apply P4);rfl)|((with_reducible apply P5);rfl));(simp (disch:=omega);exact Red.rfl);exact Red.rfl;(focus (first|(simp;done)|omega|(simp;omega))))
     |((with_reducible first|apply Z7|apply Z8|apply Z9);(simp (disch:=omega);exact Red.rfl))
     |((with_reducible first|apply Z1|apply Z2|apply Z3|apply Z4|apply Z5|apply Z6);(simp (disch:=omega);exact Red.rfl))
     |((with_reducible first|apply W1|apply W2|apply W3);(simp (disch:=omega);exact Red.rfl))
     |((with_reducible apply P6);rfl;(simp (disch:=omega);exact Red.rfl);exact Red.rfl;(focus (first|(simp [pr];done)|(simp [pr];omega))))
     |((with_reducible apply P7);rfl;(simp (disch:=omega);exact Red.rfl);exact Red.rfl;(focus (simp [repast, pr, AOp.sem];done))))
    (with_reducible apply d_call); (simp; exact Red.rfl); exact c_inside _ _ _ _ (b := true) (by simp; omega); (focus (first | (simp; done) | (simp; omega)))
    repeat (first
     |(with_reducible first|apply X1|apply X2|apply X3|apply X4|apply X5|apply X6|apply X7|apply X8|apply X9|apply Y1|apply Y2|apply Y3|apply Y4|apply Y5|apply Y6|apply Y7|apply Y8|apply Y9)
     |((with_reducible apply q_block_other);decide)
     |((with_reducible first|apply e_end|apply d_end);(simp;exact Red.rfl))
     |((first|((with_reducible apply O1);rfl)|((with_reducible apply O2);rfl)|((with_reducible apply P1);rfl)|((with_reducible apply P2);rfl)|((with_reducible apply P3);rfl)|((with_reducible apply P4);rfl)|((with_reducible apply P5);rfl));(simp (disch:=omega);exact Red.rfl);exact Red.rfl;(focus (first|(simp;done)|omega|(simp;omega))))
     |((with_reducible first|apply Z7|apply Z8|apply Z9);(simp (disch:=omega);exact Red.rfl))
     |((with_reducible first|apply Z1|apply Z2|apply Z3|apply Z4|apply Z5|apply Z6);(simp (disch:=omega);exact Red.rfl))
     |((with_reducible first|apply W1|apply W2|apply W3);(simp (disch:=omega);exact Red.rfl))
     |((with_reducible apply P6);rfl;(simp (disch:=omega);exact Red.rfl);exact Red.rfl;(focus (first|(simp [pr];done)|(simp [pr];omega))))
     |((with_reducible apply P7);rfl;(simp (disch:=omega);exact Red.rfl);exact Red.rfl;(focus (simp [repast, pr, AOp.sem];done))))
    (with_reducible apply e_op); rfl; exact den_len (by simp) hmv; exact Red.rfl; trivial
    repeat (first
     |(with_reducible first|apply X1|apply X2|apply X3|apply X4|apply X5|apply X6|apply X7|apply X8|apply X9|apply Y1|apply Y2|apply Y3|apply Y4|apply Y5|apply Y6|apply Y7|apply Y8|apply Y9)
     |((with_reducible apply q_block_other);decide)
     |((with_reducible first|apply e_end|apply d_end);(simp;exact Red.rfl))
     |((first|((with_reducible apply O1);rfl)|((with_reducible apply O2);rfl)|((with_reducible apply P1);rfl)|((with_reducible apply P2);rfl)|((with_reducible apply P3);rfl)|((with_reducible apply P4);rfl)|((with_reducible apply P5);rfl));(simp (disch:=omega);exact Red.rfl);exact Red.rfl;(focus (first|(simp;done)|omega|(simp;omega))))
     |((with_reducible first|apply Z7|apply Z8|apply Z9);(simp (disch:=omega);exact Red.rfl))
     |((with_reducible first|apply Z1|apply Z2|apply Z3|apply Z4|apply Z5|apply Z6);(simp (disch:=omega);exact Red.rfl))
     |((with_reducible first|apply W1|apply W2|apply W3);(simp (disch:=omega);exact Red.rfl))
     |((with_reducible apply P6);rfl;(simp (disch:=omega);exact Red.rfl);exact Red.rfl;(focus (first|(simp [pr];done)|(simp [pr];omega))))
     |((with_reducible apply P7);rfl;(simp (disch:=omega);exact Red.rfl);exact Red.rfl;(focus (simp [repast, pr, AOp.sem];done))))
    refine e_loop (ι := { j : Nat // j ≤ ms.length })
      (fun j => [(2, .ptr bx 0), (5, .bool true), (6, .slice la 0 l.length 1 false), (7, .slice fa 0 l.length 1 false), (8, mv), (11, .int .i64 i), (12, .ptr (H2.length + 1) 0), (13, .ptr (H2.length + 2) 0), (57, .slice H2.length 0 l.length 9 false), (58, .int .i64 l.length), (59, .int .i64 i),
        (123, mv), (124, .int .i64 ms.length), (125, .int .i64 j.1)])
      (fun _ => H2 ++ [.cells (avR (fun j => (lefS l ms j).av) l.length) true,
        .cells [.int .i64 a1, .int .i64 (-q1), .int .i64 q2, .int .i64 (-q3), .int .i64 q4, .int .i64 a6, .int .i64 a7, .int .u8 a8, .int .i64 a9] true,
        .cells [.int .i64 a1, .int .i64 a2, .int .i64 a3, .int .i64 a4, .int .i64 a5, .int .i64 a6, .int .i64 a7, .int .u8 a8, .int .i64 a9] true]) (fun j => ms.length - j.1) ⟨0, by omega⟩ ?_ ?_
    · exact .inr <| hext _ _ <| le_same (mem3 (by simp [pl.sc]) (by simp) (by simp)) (by simp [Red, hsc]; omega)
    rintro ⟨j, hj⟩
    dsimp only
    by_cases hjl : j < ms.length
    · have hjl2 : (j : Int) < ms.length := by omega
      obtain ⟨mid, moff, mex, rfl, hm2⟩ : ∃ id off ex, mv = .slice id off ms.length 5 ex ∧ rd H2 id off (ms.length * 5) = some (ms.flatMap Ms.av) := by
        rcases hmv with ⟨_, rfl⟩ | h
        · simp at hjl
        · exact h
      have hmid := rd_lt hm2
      have hy := rd_row Ms.av_length hm2 hjl
      have mLj := mL j hjl
      have mFj := mF j hjl
      have hko := (hm j hjl).1
      generalize hmj : ms[j] = m at hy mLj mFj hko
      obtain ⟨k, f, t, lo, hi2⟩ := m
      simp only [Ms.av] at hy
      dsimp only [kLong, kFall] at mLj mFj hko
      by_cases hf : f = (i : Int)
      · by_cases ht : t = (i : Int) + 1
        · subst hf; subst ht
          by_cases hk : k = 2
          · subst hk
            have h3 := mFj rfl rfl rfl
            have h4 : ¬ (-q3 < lo) := by omega
            have h5 : ¬ (hi2 < q4) := by omega
            repeat (first
             |(with_reducible first|apply X1|apply X2|apply X3|apply X4|apply X5|apply X6|apply X7|apply X8|apply X9|apply Y1|apply Y2|apply Y3|apply Y4|apply Y5|apply Y6|apply Y7|apply Y8|apply Y9)
             |((with_reducible apply q_block_other);decide)
             |((with_reducible first|apply e_end|apply d_end);(simp;exact Red.rfl))
             |((first|((with_reducible apply O1);rfl)|((with_reducible apply O2);rfl)|((with_reducible apply P1);rfl)|((with_reducible apply P2);rfl)|((with_reducible apply P3);rfl)|((with_reducible apply P4);rfl)|((with_reducible apply P5);rfl));(simp (disch:=omega) [hjl2, hjl, rd_old _ hmid, hy, h4, h5];exact Red.rfl);exact Red.rfl;(focus (first|(simp;done)|omega|(simp;omega))))
             |((with_reducible first|apply Z7|apply Z8|apply Z9);(simp (disch:=omega) [hjl2, hjl, rd_old _ hmid, hy, h4, h5];exact Red.rfl))
             |((with_reducible first|apply Z1|apply Z2|apply Z3|apply Z4|apply Z5|apply Z6);(simp (disch:=omega) [hjl2, hjl, rd_old _ hmid, hy, h4, h5];exact Red.rfl))
             |((with_reducible first|apply W1|apply W2|apply W3);(simp (disch:=omega) [hjl2, hjl, rd_old _ hmid, hy, h4, h5];exact Red.rfl))
             |((with_reducible apply P6);rfl;(simp (disch:=omega) [hjl2, hjl, rd_old _ hmid, hy, h4, h5];exact Red.rfl);exact Red.rfl;(focus (first|(simp [pr];done)|(simp [pr];omega))))
             |((with_reducible apply P7);rfl;(simp (disch:=omega) [hjl2, hjl, rd_old _ hmid, hy, h4, h5];exact Red.rfl);exact Red.rfl;(focus (simp [repast, pr, AOp.sem];done))))
            refine q_again ⟨j + 1, by omega⟩ (by dsimp only; omega) (.inr ?_)
            exact hext _ _ <| le_take (G := [_, _, _]) (mem3 (by simp [pl.sc]) (by simp) (by simp)) (by simp [Red, hmid]; omega)
          · obtain rfl : k = 1 := by omega
            have h3 := mLj rfl rfl rfl
            have h4 : ¬ (-q1 < lo) := by omega
            have h5 : ¬ (hi2 < q2) := by omega
            repeat (first
             |(with_reducible first|apply X1|apply X2|apply X3|apply X4|apply X5|apply X6|apply X7|apply X8|apply X9|apply Y1|apply Y2|apply Y3|apply Y4|apply Y5|apply Y6|apply Y7|apply Y8|apply Y9)
             |((with_reducible apply q_block_other);decide)
             |((with_reducible first|apply e_end|apply d_end);(simp;exact Red.rfl))
             |((first|((with_reducible apply O1);rfl)|((with_reducible apply O2);rfl)|((with_reducible apply P1);rfl)|((with_reducible apply P2);rfl)|((with_reducible apply P3);rfl)|((with_reducible apply P4);rfl)|((with_reducible apply P5);rfl));(simp (disch:=omega) [hjl2, hjl, rd_old _ hmid, hy, h4, h5];exact Red.rfl);exact Red.rfl;(focus (first|(simp;done)|omega|(simp;omega))))
             |((with_reducible first|apply Z7|apply Z8|apply Z9);(simp (disch:=omega) [hjl2, hjl, rd_old _ hmid, hy, h4, h5];exact Red.rfl))
             |((with_reducible first|apply Z1|apply Z2|apply Z3|apply Z4|apply Z5|apply Z6);(simp (disch:=omega) [hjl2, hjl, rd_old _ hmid, hy, h4, h5];exact Red.rfl))
             |((with_reducible first|apply W1|apply W2|apply W3);(simp (disch:=omega) [hjl2, hjl, rd_old _ hmid, hy, h4, h5];exact Red.rfl))
             |((with_reducible apply P6);rfl;(simp (disch:=omega) [hjl2, hjl, rd_old _ hmid, hy, h4, h5];exact Red.rfl);exact Red.rfl;(focus (first|(simp [pr];done)|(simp [pr];omega))))
             |((with_reducible apply P7);rfl;(simp (disch:=omega) [hjl2, hjl, rd_old _ hmid, hy, h4, h5];exact Red.rfl);exact Red.rfl;(focus (simp [repast, pr, AOp.sem];done))))
            refine q_again ⟨j + 1, by omega⟩ (by dsimp only; omega) (.inr ?_)
            exact hext _ _ <| le_take (G := [_, _, _]) (mem3 (by simp [pl.sc]) (by simp) (by simp)) (by simp [Red, hmid]; omega)
        · repeat (first
           |(with_reducible first|apply X1|apply X2|apply X3|apply X4|apply X5|apply X6|apply X7|apply X8|apply X9|apply Y1|apply Y2|apply Y3|apply Y4|apply Y5|apply Y6|apply Y7|apply Y8|apply Y9)
           |((with_reducible apply q_block_other);decide)
           |((with_reducible first|apply e_end|apply d_end);(simp;exact Red.rfl))
           |((first|((with_reducible apply O1);rfl)|((with_reducible apply O2);rfl)|((with_reducible apply P1);rfl)|((with_reducible apply P2);rfl)|((with_reducible apply P3);rfl)|((with_reducible apply P4);rfl)|((with_reducible apply P5);rfl));(simp (disch:=omega) [hjl2, hjl, rd_old _ hmid, hy, hf, ht];exact Red.rfl);exact Red.rfl;(focus (first|(simp;done)|omega|(simp;omega))))
           |((with_reducible first|apply Z7|apply Z8|apply Z9);(simp (disch:=omega) [hjl2, hjl, rd_old _ hmid, hy, hf, ht];exact Red.rfl))
           |((with_reducible first|apply Z1|apply Z2|apply Z3|apply Z4|apply Z5|apply Z6);(simp (disch:=omega) [hjl2, hjl, rd_old _ hmid, hy, hf, ht];exact Red.rfl))
           |((with_reducible first|apply W1|apply W2|apply W3);(simp (disch:=omega) [hjl2, hjl, rd_old _ hmid, hy, hf, ht];exact Red.rfl))
           |((with_reducible apply P6);rfl;(simp (disch:=omega) [hjl2, hjl, rd_old _ hmid, hy, hf, ht];exact Red.rfl);exact Red.rfl;(focus (first|(simp [pr];done)|(simp [pr];omega))))
           |((with_reducible apply P7);rfl;(simp (disch:=omega) [hjl2, hjl, rd_old _ hmid, hy, hf, ht];exact Red.rfl);exact Red.rfl;(focus (simp [repast, pr, AOp.sem];done))))
          refine q_again ⟨j + 1, by omega⟩ (by dsimp only; omega) (.inr ?_)
          exact hext _ _ <| le_take (G := [_, _, _]) (mem3 (by simp [pl.sc]) (by simp) (by simp)) (by simp [Red, hmid]; omega)
      · repeat (first
         |(with_reducible first|apply X1|apply X2|apply X3|apply X4|apply X5|apply X6|apply X7|apply X8|apply X9|apply Y1|apply Y2|apply Y3|apply Y4|apply Y5|apply Y6|apply Y7|apply Y8|apply Y9)
         |((with_reducible apply q_block_other);decide)
         |((with_reducible first|apply e_end|apply d_end);(simp;exact Red.rfl))
         |((first|((with_reducible apply O1);rfl)|((with_reducible apply O2);rfl)|((with_reducible apply P1);rfl)|((with_reducible apply P2);rfl)|((with_reducible apply P3);rfl)|((with_reducible apply P4);rfl)|((with_reducible apply P5);rfl));(simp (disch:=omega) [hjl2, hjl, rd_old _ hmid, hy, hf];exact Red.rfl);exact Red.rfl;(focus (first|(simp;done)|omega|(simp;omega))))
         |((with_reducible first|apply Z7|apply Z8|apply Z9);(simp (disch:=omega) [hjl2, hjl, rd_old _ hmid, hy, hf];exact Red.rfl))
         |((with_reducible first|apply Z1|apply Z2|apply Z3|apply Z4|apply Z5|apply Z6);(simp (disch:=omega) [hjl2, hjl, rd_old _ hmid, hy, hf];exact Red.rfl))
         |((with_reducible first|apply W1|apply W2|apply W3);(simp (disch:=omega) [hjl2, hjl, rd_old _ hmid, hy, hf];exact Red.rfl))
         |((with_reducible apply P6);rfl;(simp (disch:=omega) [hjl2, hjl, rd_old _ hmid, hy, hf];exact Red.rfl);exact Red.rfl;(focus (first|(simp [pr];done)|(simp [pr];omega))))
         |((with_reducible apply P7);rfl;(simp (disch:=omega) [hjl2, hjl, rd_old _ hmid, hy, hf];exact Red.rfl);exact Red.rfl;(focus (simp [repast, pr, AOp.sem];done))))
        refine q_again ⟨j + 1, by omega⟩ (by dsimp only; omega) (.inr ?_)
        exact hext _ _ <| le_take (G := [_, _, _]) (mem3 (by simp [pl.sc]) (by simp) (by simp)) (by simp [Red, hmid]; omega)
    · have hjl2 : ¬ (j : Int) < ms.length := by omega
      repeat (first
       |(with_reducible first|apply X1|apply X2|apply X3|apply X4|apply X5|apply X6|apply X7|apply X8|apply X9|apply Y1|apply Y2|apply Y3|apply Y4|apply Y5|apply Y6|apply Y7|apply Y8|apply Y9)
       |((with_reducible apply q_block_other);decide)
       |((with_reducible first|apply e_end|apply d_end);(simp;exact Red.rfl))
       |((first|((with_reducible apply O1);rfl)|((with_reducible apply O2);rfl)|((with_reducible apply P1);rfl)|((with_reducible apply P2);rfl)|((with_reducible apply P3);rfl)|((with_reducible apply P4);rfl)|((with_reducible apply P5);rfl));(simp (disch:=omega) [hjl2];exact Red.rfl);exact Red.rfl;(focus (first|(simp;done)|omega|(simp;omega))))
       |((with_reducible first|apply Z7|apply Z8|apply Z9);(simp (disch:=omega) [hjl2];exact Red.rfl))
       |((with_reducible first|apply Z1|apply Z2|apply Z3|apply Z4|apply Z5|apply Z6);(simp (disch:=omega) [hjl2];exact Red.rfl))
       |((with_reducible first|apply W1|apply W2|apply W3);(simp (disch:=omega) [hjl2];exact Red.rfl))
       |((with_reducible apply P6);rfl;(simp (disch:=omega) [hjl2];exact Red.rfl);exact Red.rfl;(focus (first|(simp [pr];done)|(simp [pr];omega))))
       |((with_reducible apply P7);rfl;(simp (disch:=omega) [hjl2];exact Red.rfl);exact Red.rfl;(focus (simp [repast, pr, AOp.sem];done))))
      (with_reducible apply d_do_); rfl; rfl; (simp; exact Red.rfl); exact Red.rfl
      · simp
      · simp
      · simp
      · simp [recheck, pr, AOp.sem]
      simp only [St.put]
      repeat (first
       |(with_reducible first|apply X1|apply X2|apply X3|apply X4|apply X5|apply X6|apply X7|apply X8|apply X9|apply Y1|apply Y2|apply Y3|apply Y4|apply Y5|apply Y6|apply Y7|apply Y8|apply Y9)
       |((with_reducible apply q_block_other);decide)
       |((with_reducible first|apply e_end|apply d_end);(simp;exact Red.rfl))
       |((first|((with_reducible apply O1);rfl)|((with_reducible apply O2);rfl)|((with_reducible apply P1);rfl)|((with_reducible apply P2);rfl)|((with_reducible apply P3);rfl)|((with_reducible apply P4);rfl)|((with_reducible apply P5);rfl));(simp (disch:=omega);exact Red.rfl);exact Red.rfl;(focus (first|(simp;done)|omega|(simp;omega))))
       |((with_reducible first|apply Z7|apply Z8|apply Z9);(simp (disch:=omega);exact Red.rfl))
       |((with_reducible first|apply Z1|apply Z2|apply Z3|apply Z4|apply Z5|apply Z6);(simp (disch:=omega);exact Red.rfl))
       |((with_reducible first|apply W1|apply W2|apply W3);(simp (disch:=omega);exact Red.rfl))
       |((with_reducible apply P6);rfl;(simp (disch:=omega);exact Red.rfl);exact Red.rfl;(focus (first|(simp [pr];done)|(simp [pr];omega))))
       |((with_reducible apply P7);rfl;(simp (disch:=omega);exact Red.rfl);exact Red.rfl;(focus (simp [repast, pr, AOp.sem];done))))
      refine q_again ⟨i + 1, by omega⟩ (by dsimp only; omega) (.inr ?_)
      exact hext _ _ <| le_take (G := [_]) (by simp [pl.sc]) (by simp [Red, hsc]; omega)
end Go.Proofs
