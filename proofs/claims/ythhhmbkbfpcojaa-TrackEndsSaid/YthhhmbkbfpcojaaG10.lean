/- The law TrackEnds. -/
import Derived.Test.YthhhmbkbfpcojaaG9
import Derived.Test.YthhhmbkbfpcojaaRunTrackAlive
namespace Go.Proofs
open Go.Abs
attribute [local simp] AOp.den AOpd.ev lk cellsOf rd_new rd_new0 rd_zero rd_succ wr_new wr_new0 wr_zero wr_succ splice fillA binA scal sliceCells List.length_append argsT AV.sc scL AObj.sc resV getAll AR.get AOp.slots opdSlots opdsSlots partSlots eqAt at_new0 at_new set_new0 set_new wrap64
set_option linter.unusedSimpArgs false
set_option linter.unusedVariables false
theorem c_aliveE (H : Heap) : ACalls Try.prog F.law01_alive [] H (fun v h => v = .bool true ∧ h = H) := Try.true15 H
theorem good_of_sat {k : Kind} {l : List Str} {ms : List Ms} (hm : ∀ i (h : i < ms.length), ms[i].ok l.length) {x : Nat → Int} (h : SatK k l ms x) : goodK k l ms := by
  intro i hi
  have := (closeK_sat hm).2 h i i hi hi
  omega
theorem c_NarrowG (H : Heap) (l : List Str) (id off : Nat) (ex : Bool) (ms : List Ms) (mv : AV) (hs : rd H id off (l.length * 9) = some (l.flatMap Str.av)) (hv : validL l) (hm : SlM H mv ms) (hn : (ms.length : Int) ≤ 9223372036854775807) (hok : okMs l.length ms) {x y : Nat → Int} (h1 : SatK kLong l ms x) (h2 : SatK kFall l ms y) :
    ACalls Try.prog F.track_Narrow [.agg [.slice id off l.length 9 ex], mv] H (fun v h' => v = .tuple [.agg [.slice H.length 0 l.length 9 false], .int .i64 0] ∧ h' = H ++ [.cells (avR (fun j => (lefS l ms j).av) l.length) true]) :=
  (c_Narrow H l id off ex ms mv hs hv hm hn hok).mono fun _ _ h => by
    rcases h with ⟨h3, _, _, h4⟩ | ⟨_, _, h3 | h3⟩
    · exact ⟨h3, h4⟩
    · exact absurd h1 (bad_sat h3 hok.2 _)
    · exact absurd h2 (bad_sat h3 hok.2 _)
theorem c_NarrowB (H : Heap) (l : List Str) (id off : Nat) (ex : Bool) (ms : List Ms) (mv : AV) (hs : rd H id off (l.length * 9) = some (l.flatMap Str.av)) (hv : validL l) (hm : SlM H mv ms) (hn : (ms.length : Int) ≤ 9223372036854775807) (hok : okMs l.length ms) (hb : ¬ (goodK kLong l ms ∧ goodK kFall l ms)) :
    ACalls Try.prog F.track_Narrow [.agg [.slice id off l.length 9 ex], mv] H (fun v h' => v = .tuple [.agg [.nilslice], .int .i64 8] ∧ h' = H) :=
  (c_Narrow H l id off ex ms mv hs hv hm hn hok).mono fun _ _ h => by
    rcases h with ⟨_, h1, h2, _⟩ | ⟨h3, h4, _⟩
    · exact absurd ⟨h1, h2⟩ hb
    · exact ⟨h3, h4⟩
theorem left_msE {k : Kind} (hk : k.OK) {l : List Str} (hv : validL l) {ms : List Ms} (hm : ∀ i (h : i < ms.length), ms[i].ok l.length) (hg : goodK k l ms) {i j : Nat} (hi : i < ms.length) (hj : j < l.length) (hki : ms[i].k = k.num) (hf : ms[i].f = j) (ht : ms[i].t = (j : Int) + 1) :
    ms[i].lo ≤ -closeK k l ms (j + 1) j ∧ closeK k l ms j (j + 1) ≤ ms[i].hi := by
  have h1 := (row_sat hm hg (show j ≤ l.length by omega)).2 i hi hki
  have h2 := (row_sat hm hg (show j + 1 ≤ l.length by omega)).2 i hi hki
  have d1 := closeK_diag hk hv hm hg (show j ≤ l.length by omega)
  have d2 := closeK_diag hk hv hm hg (show j + 1 ≤ l.length by omega)
  have e1 : ms[i].f.toNat = j := by omega
  have e2 : ms[i].t.toNat = j + 1 := by omega
  rw [e1, e2] at h1 h2
  omega
theorem rd_SE {H : Heap} {S : Nat → Str} {n id : Nat} {own : Bool} (hh : H[id]? = some (.cells (avR (fun j => (S j).av) n) own)) : rd H id 0 ((listS S n).length * 9) = some ((listS S n).flatMap Str.av) := by
  rw [listS_length, listS_av]; exact rd_full hh (lenS S n)
theorem c_rTrackE (H : Heap) (S : Nat → Str) (n id : Nat) (own ex : Bool) (hh : H[id]? = some (.cells (avR (fun j => (S j).av) n) own)) (hn : (n : Int) < 1000000) (hv : validL (listS S n)) :
    ACalls Try.prog F.ref01_Track [.agg [.slice id 0 n 9 ex]] H (fun v h' => v = .bool true ∧ h' = H) := by
  have := c_rTrack H (listS S n) id 0 ex (rd_SE hh) (by rw [listS_length]; exact hn)
  rw [listS_length] at this
  refine this.mono fun v h' h => ?_
  obtain ⟨h1, b, rfl, hb⟩ := h
  exact ⟨by rw [hb.2 hv], h1⟩
theorem plain_msE (ms : List Ms) : Plain (ms.flatMap Ms.av) := by
  induction ms with
  | nil => exact Plain.nil
  | cons m r ih => rw [List.flatMap_cons]; exact Plain.app ⟨rfl, fun _ => rfl, fun _ => rfl⟩ ih
theorem ms_lenE (ms : List Ms) : (ms.flatMap Ms.av).length = ms.length * 5 := by
  induction ms with
  | nil => rfl
  | cons m r ih => rw [List.flatMap_cons, List.length_append, ih, Ms.av_length, List.length_cons]; omega
theorem mod_ltE {a : Int} {n : Nat} (h0 : 0 ≤ a) (hn : 0 < n) : ∃ x : Nat, a.tmod (n : Int) = x ∧ x < n := by
  have h1 := Int.emod_nonneg a (show (n : Int) ≠ 0 by omega)
  have h2 := Int.emod_lt_of_pos a (show 0 < (n : Int) by omega)
  have h3 : a.tmod (n : Int) = a % (n : Int) := Int.tmod_eq_emod_of_nonneg h0
  exact ⟨(a % (n : Int)).toNat, by rw [h3]; omega, by omega⟩

set_option maxHeartbeats 4000000 in
theorem c_lawEndsF (H : Heap) (l : List Str) (ms : List Ms) (which : Int) (id off mid moff : Nat) (ex mex : Bool) (hs : rd H id off (l.length * 9) = some (l.flatMap Str.av))
    (hm : rd H mid moff (ms.length * 5) = some (ms.flatMap Ms.av)) (hw : 0 ≤ which ∧ which ≤ 255) (hn : (ms.length : Int) ≤ 9223372036854775807) (hk : ∀ i (h : i < ms.length), 0 ≤ ms[i].k ∧ ms[i].k ≤ 255) :
    ACalls Try.prog F.law01_TrackEnds [.agg [.slice id off l.length 9 ex], .slice mid moff ms.length 5 mex, .int .u8 which, .bool false] H (fun v _ => v = .bool true) := by
  refine acalls_of ok_law01_TrackEnds rfl fun hcl => ?_
  unfold ac_law01_TrackEnds
  simp only [argsT, Nat.zero_add, Nat.reduceAdd]
  have hid := rd_lt hs
  have hmid := rd_lt hm
  repeat (first
   |(with_reducible first|apply X1|apply X2|apply X3|apply X4|apply X5|apply X6|apply X7|apply X8|apply X9|apply Y1|apply Y2|apply Y3|apply Y4|apply Y5|apply Y6|apply Y7|apply Y8|apply Y9)
   |((with_reducible apply q_block_other);decide)
   |((with_reducible first|apply e_end|apply d_end);(simp;exact Red.rfl))
   |((first|((with_reducible apply O1);rfl)|((with_reducible apply O2);rfl)|((with_reducible apply P1);rfl)|((with_reducible apply P2);rfl)|((with_reducible apply P3);rfl)|((with_reducible apply P4);rfl)|((with_reducible apply P5);rfl));(simp (disch:=omega);exact Red.rfl);exact Red.rfl;(focus (first|(simp;done)|omega|(simp;omega))))
   |((with_reducible first|apply Z7|apply Z8|apply Z9);(simp (disch:=omega);exact Red.rfl))
   |((with_reducible first|apply Z1|apply Z2|apply Z3|apply Z4|apply Z5|apply Z6);(simp (disch:=omega);exact Red.rfl))
   |((with_reducible first|apply W1|apply W2|apply W3);(simp (disch:=omega);exact Red.rfl))
   |((with_reducible apply P6);rfl;(simp (disch:=omega);exact Red.rfl);exact Red.rfl;(focus (first|(simp [pr];done)|(simp [pr];omega))))
   |((with_reducible apply P7);rfl;(simp (disch:=omega);exact Red.rfl);exact Red.rfl;(focus (simp [repast, pr, AOp.sem];done))))
  (with_reducible apply e_call); (simp; exact Red.rfl); exact c_aliveE _
  rintro _ _ ⟨rfl, rfl⟩
  repeat (first
   |(with_reducible first|apply X1|apply X2|apply X3|apply X4|apply X5|apply X6|apply X7|apply X8|apply X9|apply Y1|apply Y2|apply Y3|apply Y4|apply Y5|apply Y6|apply Y7|apply Y8|apply Y9)
   |((with_reducible apply q_block_other);decide)
   |((with_reducible first|apply e_end|apply d_end);(simp;exact Red.rfl))
   |((first|((with_reducible apply O1);rfl)|((with_reducible apply O2);rfl)|((with_reducible apply P1);rfl)|((with_reducible apply P2);rfl)|((with_reducible apply P3);rfl)|((with_reducible apply P4);rfl)|((with_reducible apply P5);rfl));(simp (disch:=omega);exact Red.rfl);exact Red.rfl;(focus (first|(simp;done)|omega|(simp;omega))))
   |((with_reducible first|apply Z7|apply Z8|apply Z9);(simp (disch:=omega);exact Red.rfl))
   |((with_reducible first|apply Z1|apply Z2|apply Z3|apply Z4|apply Z5|apply Z6);(simp (disch:=omega);exact Red.rfl))
   |((with_reducible first|apply W1|apply W2|apply W3);(simp (disch:=omega);exact Red.rfl))
   |((with_reducible apply P6);rfl;(simp (disch:=omega);exact Red.rfl);exact Red.rfl;(focus (first|(simp [pr];done)|(simp [pr];omega))))
   |((with_reducible apply P7);rfl;(simp (disch:=omega);exact Red.rfl);exact Red.rfl;(focus (simp [repast, pr, AOp.sem];done))))
  (with_reducible apply e_call); (simp; exact Red.rfl); exact c_ready _ l id off ex (by rw [rd_old _ hid]; exact hs)
  rintro _ _ ⟨rfl, b, rfl, hbv⟩
  cases b with
  | false =>
    repeat (first
     |(with_reducible first|apply X1|apply X2|apply X3|apply X4|apply X5|apply X6|apply X7|apply X8|apply X9|apply Y1|apply Y2|apply Y3|apply Y4|apply Y5|apply Y6|apply Y7|apply Y8|apply Y9)
     |((with_reducible apply q_block_other);decide)
     |((with_reducible first|apply e_end|apply d_end);(simp;exact Red.rfl))
     |((first|((with_reducible apply O1);rfl)|((with_reducible apply O2);rfl)|((with_reducible apply P1);rfl)|((with_reducible apply P2);rfl)|((with_reducible apply P3);rfl)|((with_reducible apply P4);rfl)|((with_reducible apply P5);rfl));(simp (disch:=omega);exact Red.rfl);exact Red.rfl;(focus (first|(simp;done)|omega|(simp;omega))))
     |((with_reducible first|apply Z7|apply Z8|apply Z9);(simp (disch:=omega);exact Red.rfl))
     |((with_reducible first|apply Z1|apply Z2|apply Z3|apply Z4|apply Z5|apply Z6);(simp (disch:=omega);exact Red.rfl))
     |((with_reducible first|apply W1|apply W2|apply W3);(simp (disch:=omega);exact Red.rfl))
     |((with_reducible apply P6);rfl;(simp (disch:=omega);exact Red.rfl);exact Red.rfl;(focus (first|(simp [pr];done)|(simp [pr];omega))))
     |((with_reducible apply P7);rfl;(simp (disch:=omega);exact Red.rfl);exact Red.rfl;(focus (simp [repast, pr, AOp.sem];done))))
    exact q_drop (.inr rfl) (by simp; exact Red.rfl) (by simp) rfl
  | true =>
    have hv := hbv.1 rfl
    have h12 := hv.1
    repeat (first
     |(with_reducible first|apply X1|apply X2|apply X3|apply X4|apply X5|apply X6|apply X7|apply X8|apply X9|apply Y1|apply Y2|apply Y3|apply Y4|apply Y5|apply Y6|apply Y7|apply Y8|apply Y9)
     |((with_reducible apply q_block_other);decide)
     |((with_reducible first|apply e_end|apply d_end);(simp;exact Red.rfl))
     |((first|((with_reducible apply O1);rfl)|((with_reducible apply O2);rfl)|((with_reducible apply P1);rfl)|((with_reducible apply P2);rfl)|((with_reducible apply P3);rfl)|((with_reducible apply P4);rfl)|((with_reducible apply P5);rfl));(simp (disch:=omega);exact Red.rfl);exact Red.rfl;(focus (first|(simp;done)|omega|(simp;omega))))
     |((with_reducible first|apply Z7|apply Z8|apply Z9);(simp (disch:=omega);exact Red.rfl))
     |((with_reducible first|apply Z1|apply Z2|apply Z3|apply Z4|apply Z5|apply Z6);(simp (disch:=omega);exact Red.rfl))
     |((with_reducible first|apply W1|apply W2|apply W3);(simp (disch:=omega);exact Red.rfl))
     |((with_reducible apply P6);rfl;(simp (disch:=omega);exact Red.rfl);exact Red.rfl;(focus (first|(simp [pr];done)|(simp [pr];omega))))
     |((with_reducible apply P7);rfl;(simp (disch:=omega);exact Red.rfl);exact Red.rfl;(focus (simp [repast, pr, AOp.sem];done))))
    (with_reducible apply e_call); (simp; exact Red.rfl); exact c_rMeasures _ l.length id off ex ms mid moff mex (by simp; omega) (by rw [rd_old _ hmid]; exact hm) hn hk
    rintro _ _ ⟨rfl, b, rfl, hbm⟩
    cases b with
    | false =>
      repeat (first
       |(with_reducible first|apply X1|apply X2|apply X3|apply X4|apply X5|apply X6|apply X7|apply X8|apply X9|apply Y1|apply Y2|apply Y3|apply Y4|apply Y5|apply Y6|apply Y7|apply Y8|apply Y9)
       |((with_reducible apply q_block_other);decide)
       |((with_reducible first|apply e_end|apply d_end);(simp;exact Red.rfl))
       |((first|((with_reducible apply O1);rfl)|((with_reducible apply O2);rfl)|((with_reducible apply P1);rfl)|((with_reducible apply P2);rfl)|((with_reducible apply P3);rfl)|((with_reducible apply P4);rfl)|((with_reducible apply P5);rfl));(simp (disch:=omega);exact Red.rfl);exact Red.rfl;(focus (first|(simp;done)|omega|(simp;omega))))
       |((with_reducible first|apply Z7|apply Z8|apply Z9);(simp (disch:=omega);exact Red.rfl))
       |((with_reducible first|apply Z1|apply Z2|apply Z3|apply Z4|apply Z5|apply Z6);(simp (disch:=omega);exact Red.rfl))
       |((with_reducible first|apply W1|apply W2|apply W3);(simp (disch:=omega);exact Red.rfl))
       |((with_reducible apply P6);rfl;(simp (disch:=omega);exact Red.rfl);exact Red.rfl;(focus (first|(simp [pr];done)|(simp [pr];omega))))
       |((with_reducible apply P7);rfl;(simp (disch:=omega);exact Red.rfl);exact Red.rfl;(focus (simp [repast, pr, AOp.sem];done))))
      exact q_drop (.inr rfl) (by simp; exact Red.rfl) (by simp) rfl
    | true =>
      have okm := hbm.1 rfl
      by_cases h12m : ms.length = 12
      · have h12i : (ms.length : Int) = 12 := by omega
        repeat (first
         |(with_reducible first|apply X1|apply X2|apply X3|apply X4|apply X5|apply X6|apply X7|apply X8|apply X9|apply Y1|apply Y2|apply Y3|apply Y4|apply Y5|apply Y6|apply Y7|apply Y8|apply Y9)
         |((with_reducible apply q_block_other);decide)
         |((with_reducible first|apply e_end|apply d_end);(simp;exact Red.rfl))
         |((first|((with_reducible apply O1);rfl)|((with_reducible apply O2);rfl)|((with_reducible apply P1);rfl)|((with_reducible apply P2);rfl)|((with_reducible apply P3);rfl)|((with_reducible apply P4);rfl)|((with_reducible apply P5);rfl));(simp (disch:=omega) [h12m, h12i];exact Red.rfl);exact Red.rfl;(focus (first|(simp;done)|omega|(simp;omega))))
         |((with_reducible first|apply Z7|apply Z8|apply Z9);(simp (disch:=omega) [h12m, h12i];exact Red.rfl))
         |((with_reducible first|apply Z1|apply Z2|apply Z3|apply Z4|apply Z5|apply Z6);(simp (disch:=omega) [h12m, h12i];exact Red.rfl))
         |((with_reducible first|apply W1|apply W2|apply W3);(simp (disch:=omega) [h12m, h12i];exact Red.rfl))
         |((with_reducible apply P6);rfl;(simp (disch:=omega) [h12m, h12i];exact Red.rfl);exact Red.rfl;(focus (first|(simp [pr];done)|(simp [pr];omega))))
         |((with_reducible apply P7);rfl;(simp (disch:=omega) [h12m, h12i];exact Red.rfl);exact Red.rfl;(focus (simp [repast, pr, AOp.sem];done))))
        exact q_drop (.inr rfl) (by simp; exact Red.rfl) (by simp) rfl
      have h11 : ms.length < 12 := by have := okm.1; omega
      have h12i : ¬ (ms.length : Int) = 12 := by omega
      obtain ⟨i, hi, hil⟩ := mod_ltE (n := l.length) hw.1 (by omega)
      have hww : IntKind.i64.wrap which = which := by rw [wrap64] <;> omega
      repeat (first
       |(with_reducible first|apply X1|apply X2|apply X3|apply X4|apply X5|apply X6|apply X7|apply X8|apply X9|apply Y1|apply Y2|apply Y3|apply Y4|apply Y5|apply Y6|apply Y7|apply Y8|apply Y9)
       |((with_reducible apply q_block_other);decide)
       |((with_reducible first|apply e_end|apply d_end);(simp;exact Red.rfl))
       |((first|((with_reducible apply O1);rfl)|((with_reducible apply O2);rfl)|((with_reducible apply P1);rfl)|((with_reducible apply P2);rfl)|((with_reducible apply P3);rfl)|((with_reducible apply P4);rfl)|((with_reducible apply P5);rfl));(simp (disch:=omega) [h12m, h12i];exact Red.rfl);exact Red.rfl;(focus (first|(simp;done)|omega|(simp;omega))))
       |((with_reducible first|apply Z7|apply Z8|apply Z9);(simp (disch:=omega) [h12m, h12i];exact Red.rfl))
       |((with_reducible first|apply Z1|apply Z2|apply Z3|apply Z4|apply Z5|apply Z6);(simp (disch:=omega) [h12m, h12i];exact Red.rfl))
       |((with_reducible first|apply W1|apply W2|apply W3);(simp (disch:=omega) [h12m, h12i];exact Red.rfl))
       |((with_reducible apply P6);rfl;(simp (disch:=omega) [h12m, h12i];exact Red.rfl);exact Red.rfl;(focus (first|(simp [pr];done)|(simp [pr];omega))))
       |((with_reducible apply P7);rfl;(simp (disch:=omega) [h12m, h12i];exact Red.rfl);exact Red.rfl;(focus (simp [repast, pr, AOp.sem];done))))
      (with_reducible apply e_call); (simp; exact Red.rfl); exact c_Narrow _ l id off ex ms _ (by rw [rd_old _ hid]; exact hs) hv (.inr ⟨mid, moff, mex, rfl, by rw [rd_old _ hmid]; exact hm⟩) hn okm
      rintro _ _ (⟨rfl, hgL, hgF, rfl⟩ | ⟨rfl, rfl, hbad⟩)
      rotate_left
      · repeat (first
         |(with_reducible first|apply X1|apply X2|apply X3|apply X4|apply X5|apply X6|apply X7|apply X8|apply X9|apply Y1|apply Y2|apply Y3|apply Y4|apply Y5|apply Y6|apply Y7|apply Y8|apply Y9)
         |((with_reducible apply q_block_other);decide)
         |((with_reducible first|apply e_end|apply d_end);(simp;exact Red.rfl))
         |((first|((with_reducible apply O1);rfl)|((with_reducible apply O2);rfl)|((with_reducible apply P1);rfl)|((with_reducible apply P2);rfl)|((with_reducible apply P3);rfl)|((with_reducible apply P4);rfl)|((with_reducible apply P5);rfl));(simp (disch:=omega);exact Red.rfl);exact Red.rfl;(focus (first|(simp;done)|omega|(simp;omega))))
         |((with_reducible first|apply Z7|apply Z8|apply Z9);(simp (disch:=omega);exact Red.rfl))
         |((with_reducible first|apply Z1|apply Z2|apply Z3|apply Z4|apply Z5|apply Z6);(simp (disch:=omega);exact Red.rfl))
         |((with_reducible first|apply W1|apply W2|apply W3);(simp (disch:=omega);exact Red.rfl))
         |((with_reducible apply P6);rfl;(simp (disch:=omega);exact Red.rfl);exact Red.rfl;(focus (first|(simp [pr];done)|(simp [pr];omega))))
         |((with_reducible apply P7);rfl;(simp (disch:=omega);exact Red.rfl);exact Red.rfl;(focus (simp [repast, pr, AOp.sem];done))))
        exact q_drop (.inr rfl) (by simp; exact Red.rfl) (by simp) rfl
      have hil2 : (i : Int) < l.length := by omega
      have hne : ¬ l = [] := by intro h; rw [h] at h12; simp at h12
      have pS := plain_fun (lefS l ms)
      have ll := pS.length l.length
      have hg : goodK kLong l ms := hgL
      have hgo : goodK kFall l ms := hgF
      have hin : -closeK kLong l ms (i + 1) i ≤ closeK kLong l ms i (i + 1) := (closeK_in (k := kLong) okm.2 hg hil).2.1
      have hin0 : 0 ≤ -closeK kLong l ms (i + 1) i ∧ closeK kLong l ms i (i + 1) ≤ 30000 := by
        have h1 := closeK_in (k := kLong) okm.2 hg hil
        have h2 := kLong_ok.bd _ (by have := (hv.2 i hil).2.1; rwa [← strAt_eq hil] at this)
        simp only [kLo, kHi] at h1
        omega
      have hpart : ((avR (fun j => (lefS l ms j).av) l.length).drop (i * 9 + 1)).take 2 = [.int .i64 (-closeK kLong l ms (i + 1) i), .int .i64 (closeK kLong l ms i (i + 1))] := by
        rw [pS.part hil (by omega)]
        simp only [lefS, lefL, if_pos hil]
        rfl
      have hpart0 : ((avR (fun j => (lefS l ms j).av) l.length).drop (i * 9 + 1)).take 2 = [.int .i64 (lefS l ms i).lLo, .int .i64 (lefS l ms i).lHi] := by
        rw [pS.part hil (by omega)]; rfl
      have l2 : i * 9 + 1 + 2 ≤ l.length * 9 := by omega
      have l20 : i * 9 + 1 + 2 ≤ l.length * 9 := by omega
      have hlo : ∀ e, (e = -closeK kLong l ms (i + 1) i ∨ e = closeK kLong l ms i (i + 1)) → ∃ x, SatK kLong l (ms ++ [⟨1, i, (i : Int) + 1, e, e⟩]) x := fun e he => ends_come kLong_ok hv okm.2 hg hil he
      generalize hq1 : -closeK kLong l ms (i + 1) i = q1 at *
      generalize hq2 : closeK kLong l ms i (i + 1) = q2 at *
      repeat (first
       |(with_reducible first|apply X1|apply X2|apply X3|apply X4|apply X5|apply X6|apply X7|apply X8|apply X9|apply Y1|apply Y2|apply Y3|apply Y4|apply Y5|apply Y6|apply Y7|apply Y8|apply Y9)
       |((with_reducible apply q_block_other);decide)
       |((with_reducible first|apply e_end|apply d_end);(simp;exact Red.rfl))
       |((first|((with_reducible apply O1);rfl)|((with_reducible apply O2);rfl)|((with_reducible apply P1);rfl)|((with_reducible apply P2);rfl)|((with_reducible apply P3);rfl)|((with_reducible apply P4);rfl)|((with_reducible apply P5);rfl));(simp (disch:=omega) [hww, hi, hil, hil2, hne, ll, l2, l20, hpart, hpart0];exact Red.rfl);exact Red.rfl;(focus (first|(simp;done)|omega|(simp;omega))))
       |((with_reducible first|apply Z7|apply Z8|apply Z9);(simp (disch:=omega) [hww, hi, hil, hil2, hne, ll, l2, l20, hpart, hpart0];exact Red.rfl))
       |((with_reducible first|apply Z1|apply Z2|apply Z3|apply Z4|apply Z5|apply Z6);(simp (disch:=omega) [hww, hi, hil, hil2, hne, ll, l2, l20, hpart, hpart0];exact Red.rfl))
       |((with_reducible first|apply W1|apply W2|apply W3);(simp (disch:=omega) [hww, hi, hil, hil2, hne, ll, l2, l20, hpart, hpart0];exact Red.rfl))
       |((with_reducible apply P6);rfl;(simp (disch:=omega) [hww, hi, hil, hil2, hne, ll, l2, l20, hpart, hpart0];exact Red.rfl);exact Red.rfl;(focus (first|(simp [pr];done)|(simp [pr];omega))))
       |((with_reducible apply P7);rfl;(simp (disch:=omega) [hww, hi, hil, hil2, hne, ll, l2, l20, hpart, hpart0];exact Red.rfl);exact Red.rfl;(focus (simp [repast, pr, AOp.sem];done))))
      have pl := pS.plain l.length
      refine e_loop (ι := { p : Nat × Int × Int // p.1 ≤ 2 })
        (fun p => [(1, .slice mid moff ms.length 5 mex), (3, .bool false), (4, .ptr H.length 0), (9, .bool true), (12, .int .i64 i), (13, .ptr (H.length + 3) 0), (14, .ptr (H.length + 4) 0), (92, .slice (H.length + 5) 0 2 1 true), (93, .int .i64 2), (94, .int .i64 p.1.1)])
        (fun p => H ++ [.cells [.slice id off l.length 9 ex] true, .cells (avR (fun j => (lefS l ms j).av) l.length) true, .cells [.slice (H.length + 1) 0 l.length 9 false] true, .cells [.int .i64 q1, .int .i64 q2] true,
          .cells [.int .u8 1, .int .i64 i, .int .i64 ((i : Int) + 1), .int .i64 p.1.2.1, .int .i64 p.1.2.2] true, .cells [.int .i64 q1, .int .i64 q2] true]) (fun p => 2 - p.1.1) ⟨(0, 0, 0), by omega⟩ ?_ ?_
      · exact .inr <| le_same (by simp [pl.sc]; omega) (by simp [Red]; omega)
      rintro ⟨⟨j, u, w⟩, hj⟩
      dsimp only at hj ⊢
      by_cases hj2 : j < 2
      · have hj3 : (j : Int) < 2 := by omega
        obtain ⟨e, he, hdr⟩ : ∃ e, (e = q1 ∨ e = q2) ∧ (List.drop j [AV.int .i64 q1, .int .i64 q2]).take 1 = [.int .i64 e] := by
          have : j = 0 ∨ j = 1 := by omega
          rcases this with rfl | rfl
          · exact ⟨q1, .inl rfl, rfl⟩
          · exact ⟨q2, .inr rfl, rfl⟩
        obtain ⟨xK, hxK⟩ := hlo e he
        have hei : 0 ≤ e ∧ e ≤ 360000 := by rcases he with rfl | rfl <;> omega
        have hmok : (⟨1, i, (i : Int) + 1, e, e⟩ : Ms).ok l.length := by simp only [Ms.ok]; refine ⟨.inl trivial, ?_⟩; omega
        have okm2 := okMs_snoc okm h11 hmok
        have hxO : SatK kFall l (ms ++ [⟨1, i, (i : Int) + 1, e, e⟩]) (closeK kFall l ms 0) := satK_snoc.2 ⟨row_sat okm.2 hgo (Nat.zero_le _), fun h => by simp [kFall, kLong] at h⟩
        have hgK := good_of_sat okm2.2 hxK
        have hgO := good_of_sat okm2.2 hxO
        have hvl : validL (listS (lefS l (ms ++ [⟨1, i, (i : Int) + 1, e, e⟩])) l.length) := lefS_valid hv okm2.2 hgK hgO
        have hms := left_msE kLong_ok hv okm2.2 hgK (show ms.length < (ms ++ [(⟨1, i, (i : Int) + 1, e, e⟩ : Ms)]).length by simp) hil (by rw [List.getElem_concat_length rfl]; rfl) (by rw [List.getElem_concat_length rfl]) (by rw [List.getElem_concat_length rfl])
        rw [List.getElem_concat_length rfl] at hms
        dsimp only at hms
        have hin2 := (closeK_in (k := kLong) okm2.2 hgK hil).2.1
        have pS2 := plain_fun (lefS l (ms ++ [⟨1, i, (i : Int) + 1, e, e⟩]))
        have ll2 := pS2.length l.length
        have hpart2 : ((avR (fun j => (lefS l (ms ++ [⟨1, i, (i : Int) + 1, e, e⟩]) j).av) l.length).drop (i * 9 + 1)).take 2 = [.int .i64 e, .int .i64 e] := by
          rw [pS2.part hil (by omega)]
          have e1 : -closeK kLong l (ms ++ [⟨1, i, (i : Int) + 1, e, e⟩]) (i + 1) i = e := by omega
          have e2 : closeK kLong l (ms ++ [⟨1, i, (i : Int) + 1, e, e⟩]) i (i + 1) = e := by omega
          simp only [lefS, lefL, if_pos hil, e1, e2]
          rfl
        have hpart20 : ((avR (fun j => (lefS l (ms ++ [⟨1, i, (i : Int) + 1, e, e⟩]) j).av) l.length).drop (i * 9 + 1)).take 2 = [.int .i64 (lefS l (ms ++ [⟨1, i, (i : Int) + 1, e, e⟩]) i).lLo, .int .i64 (lefS l (ms ++ [⟨1, i, (i : Int) + 1, e, e⟩]) i).lHi] := by
          rw [pS2.part hil (by omega)]; rfl
        have pm := plain_msE ms
        have lm := ms_lenE ms
        have hml : (ms ++ [(⟨1, i, (i : Int) + 1, e, e⟩ : Ms)]).length = ms.length + 1 := by simp
        have hfl : (ms ++ [(⟨1, i, (i : Int) + 1, e, e⟩ : Ms)]).flatMap Ms.av = ms.flatMap Ms.av ++ [.int .u8 1, .int .i64 i, .int .i64 ((i : Int) + 1), .int .i64 e, .int .i64 e] := by simp [Ms.av]
        have hnar := fun H2 mv hs2 hm2 => c_NarrowG H2 l id off ex (ms ++ [⟨1, i, (i : Int) + 1, e, e⟩]) mv hs2 hv hm2 (by omega) okm2 hxK hxO
        generalize lefS l (ms ++ [⟨1, i, (i : Int) + 1, e, e⟩]) = S2 at *
        repeat (first
         |(with_reducible first|apply X1|apply X2|apply X3|apply X4|apply X5|apply X6|apply X7|apply X8|apply X9|apply Y1|apply Y2|apply Y3|apply Y4|apply Y5|apply Y6|apply Y7|apply Y8|apply Y9)
         |((with_reducible apply q_block_other);decide)
         |((with_reducible first|apply e_end|apply d_end);(simp;exact Red.rfl))
         |((first|((with_reducible apply O1);rfl)|((with_reducible apply O2);rfl)|((with_reducible apply P1);rfl)|((with_reducible apply P2);rfl)|((with_reducible apply P3);rfl)|((with_reducible apply P4);rfl)|((with_reducible apply P5);rfl));(simp (disch:=omega) [hj2, hj3, hdr, show j ≤ 1 by omega];exact Red.rfl);exact Red.rfl;(focus (first|(simp;done)|omega|(simp;omega))))
         |((with_reducible first|apply Z7|apply Z8|apply Z9);(simp (disch:=omega) [hj2, hj3, hdr, show j ≤ 1 by omega];exact Red.rfl))
         |((with_reducible first|apply Z1|apply Z2|apply Z3|apply Z4|apply Z5|apply Z6);(simp (disch:=omega) [hj2, hj3, hdr, show j ≤ 1 by omega];exact Red.rfl))
         |((with_reducible first|apply W1|apply W2|apply W3);(simp (disch:=omega) [hj2, hj3, hdr, show j ≤ 1 by omega];exact Red.rfl))
         |((with_reducible apply P6);rfl;(simp (disch:=omega) [hj2, hj3, hdr, show j ≤ 1 by omega];exact Red.rfl);exact Red.rfl;(focus (first|(simp [pr];done)|(simp [pr];omega))))
         |((with_reducible apply P7);rfl;(simp (disch:=omega) [hj2, hj3, hdr, show j ≤ 1 by omega];exact Red.rfl);exact Red.rfl;(focus (simp [repast, pr, AOp.sem];done))))
        (with_reducible apply e_call); (simp; exact Red.rfl); exact c_span _ _ _
        rintro _ _ ⟨rfl, rfl⟩
        have hle : (0 + ms.length) * 40 ≤ 140737488355328 := by omega
        have hle1 : ms.length * 40 ≤ 140737488355328 := by omega
        have hle2 : (ms.length + 1) * 40 ≤ 140737488355328 := by omega
        repeat (first
         |(with_reducible first|apply X1|apply X2|apply X3|apply X4|apply X5|apply X6|apply X7|apply X8|apply X9|apply Y1|apply Y2|apply Y3|apply Y4|apply Y5|apply Y6|apply Y7|apply Y8|apply Y9)
         |((with_reducible apply q_block_other);decide)
         |((with_reducible first|apply e_end|apply d_end);(simp;exact Red.rfl))
         |((first|((with_reducible apply O1);rfl)|((with_reducible apply O2);rfl)|((with_reducible apply P1);rfl)|((with_reducible apply P2);rfl)|((with_reducible apply P3);rfl)|((with_reducible apply P4);rfl)|((with_reducible apply P5);rfl));(simp (disch:=omega);exact Red.rfl);exact Red.rfl;(focus (first|(simp;done)|omega|(simp;omega))))
         |((with_reducible first|apply Z7|apply Z8|apply Z9);(simp (disch:=omega);exact Red.rfl))
         |((with_reducible first|apply Z1|apply Z2|apply Z3|apply Z4|apply Z5|apply Z6);(simp (disch:=omega);exact Red.rfl))
         |((with_reducible first|apply W1|apply W2|apply W3);(simp (disch:=omega);exact Red.rfl))
         |((with_reducible apply P6);rfl;(simp (disch:=omega);exact Red.rfl);exact Red.rfl;(focus (first|(simp [pr];done)|(simp [pr];omega))))
         |((with_reducible apply P7);rfl;(simp (disch:=omega);exact Red.rfl);exact Red.rfl;(focus (simp [repast, pr, AOp.sem];done))))
        (with_reducible apply d_do_); rfl; rfl; (simp (disch := omega) [rd_old _ hmid, hm, lm, take_all lm]; exact Red.rfl); exact Red.rfl
        · refine ⟨by simpa using pm.scal, ?_⟩; omega
        · simp; omega
        · simp
        · simp [recheck, pr, AOp.sem]
        simp only [St.put]
        repeat (first
         |(with_reducible first|apply X1|apply X2|apply X3|apply X4|apply X5|apply X6|apply X7|apply X8|apply X9|apply Y1|apply Y2|apply Y3|apply Y4|apply Y5|apply Y6|apply Y7|apply Y8|apply Y9)
         |((with_reducible apply q_block_other);decide)
         |((with_reducible first|apply e_end|apply d_end);(simp;exact Red.rfl))
         |((first|((with_reducible apply O1);rfl)|((with_reducible apply O2);rfl)|((with_reducible apply P1);rfl)|((with_reducible apply P2);rfl)|((with_reducible apply P3);rfl)|((with_reducible apply P4);rfl)|((with_reducible apply P5);rfl));(simp (disch:=omega);exact Red.rfl);exact Red.rfl;(focus (first|(simp;done)|omega|(simp;omega))))
         |((with_reducible first|apply Z7|apply Z8|apply Z9);(simp (disch:=omega);exact Red.rfl))
         |((with_reducible first|apply Z1|apply Z2|apply Z3|apply Z4|apply Z5|apply Z6);(simp (disch:=omega);exact Red.rfl))
         |((with_reducible first|apply W1|apply W2|apply W3);(simp (disch:=omega);exact Red.rfl))
         |((with_reducible apply P6);rfl;(simp (disch:=omega);exact Red.rfl);exact Red.rfl;(focus (first|(simp [pr];done)|(simp [pr];omega))))
         |((with_reducible apply P7);rfl;(simp (disch:=omega);exact Red.rfl);exact Red.rfl;(focus (simp [repast, pr, AOp.sem];done))))
        (with_reducible apply d_do_); rfl; rfl; (simp (disch := omega) [lm, take_all lm]; exact Red.rfl); exact Red.rfl
        · simp [hle2]
        · simp
        · simp
        · simp [recheck, pr, AOp.sem]
        simp only [St.put]
        (with_reducible apply d_call_); (simp; exact Red.rfl); exact hnar _ _ (by rw [rd_old _ hid]; exact hs) (.inr ⟨H.length + 9, 0, false, by rw [hml], by rw [hml, hfl]; exact rd_full (b := true) (by rw [at_new]; rfl) (by simp [lm]; omega)⟩); (focus (first | (simp; done) | (simp; omega)))
        repeat (first
         |(with_reducible first|apply X1|apply X2|apply X3|apply X4|apply X5|apply X6|apply X7|apply X8|apply X9|apply Y1|apply Y2|apply Y3|apply Y4|apply Y5|apply Y6|apply Y7|apply Y8|apply Y9)
         |((with_reducible apply q_block_other);decide)
         |((with_reducible first|apply e_end|apply d_end);(simp;exact Red.rfl))
         |((first|((with_reducible apply O1);rfl)|((with_reducible apply O2);rfl)|((with_reducible apply P1);rfl)|((with_reducible apply P2);rfl)|((with_reducible apply P3);rfl)|((with_reducible apply P4);rfl)|((with_reducible apply P5);rfl));(simp (disch:=omega);exact Red.rfl);exact Red.rfl;(focus (first|(simp;done)|omega|(simp;omega))))
         |((with_reducible first|apply Z7|apply Z8|apply Z9);(simp (disch:=omega);exact Red.rfl))
         |((with_reducible first|apply Z1|apply Z2|apply Z3|apply Z4|apply Z5|apply Z6);(simp (disch:=omega);exact Red.rfl))
         |((with_reducible first|apply W1|apply W2|apply W3);(simp (disch:=omega);exact Red.rfl))
         |((with_reducible apply P6);rfl;(simp (disch:=omega);exact Red.rfl);exact Red.rfl;(focus (first|(simp [pr];done)|(simp [pr];omega))))
         |((with_reducible apply P7);rfl;(simp (disch:=omega);exact Red.rfl);exact Red.rfl;(focus (simp [repast, pr, AOp.sem];done))))
        (with_reducible apply e_call); (simp; exact Red.rfl); exact c_rTrackE _ S2 l.length (H.length + 10) true false (by rw [at_new]; rfl) (by omega) hvl
        rintro _ _ ⟨rfl, rfl⟩
        repeat (first
         |(with_reducible first|apply X1|apply X2|apply X3|apply X4|apply X5|apply X6|apply X7|apply X8|apply X9|apply Y1|apply Y2|apply Y3|apply Y4|apply Y5|apply Y6|apply Y7|apply Y8|apply Y9)
         |((with_reducible apply q_block_other);decide)
         |((with_reducible first|apply e_end|apply d_end);(simp;exact Red.rfl))
         |((first|((with_reducible apply O1);rfl)|((with_reducible apply O2);rfl)|((with_reducible apply P1);rfl)|((with_reducible apply P2);rfl)|((with_reducible apply P3);rfl)|((with_reducible apply P4);rfl)|((with_reducible apply P5);rfl));(simp (disch:=omega) [hil, hil2, hne, ll2, l2, l20, hpart2, hpart20];exact Red.rfl);exact Red.rfl;(focus (first|(simp;done)|omega|(simp;omega))))
         |((with_reducible first|apply Z7|apply Z8|apply Z9);(simp (disch:=omega) [hil, hil2, hne, ll2, l2, l20, hpart2, hpart20];exact Red.rfl))
         |((with_reducible first|apply Z1|apply Z2|apply Z3|apply Z4|apply Z5|apply Z6);(simp (disch:=omega) [hil, hil2, hne, ll2, l2, l20, hpart2, hpart20];exact Red.rfl))
         |((with_reducible first|apply W1|apply W2|apply W3);(simp (disch:=omega) [hil, hil2, hne, ll2, l2, l20, hpart2, hpart20];exact Red.rfl))
         |((with_reducible apply P6);rfl;(simp (disch:=omega) [hil, hil2, hne, ll2, l2, l20, hpart2, hpart20];exact Red.rfl);exact Red.rfl;(focus (first|(simp [pr];done)|(simp [pr];omega))))
         |((with_reducible apply P7);rfl;(simp (disch:=omega) [hil, hil2, hne, ll2, l2, l20, hpart2, hpart20];exact Red.rfl);exact Red.rfl;(focus (simp [repast, pr, AOp.sem];done))))
        refine q_again ⟨(j + 1, e, e), by omega⟩ (by dsimp only; omega) (.inr ?_)
        exact le_take (G := [_, _, _, _, _, _]) (by simp [pl.sc]; omega) (by simp [Red]; omega)
      obtain rfl : j = 2 := by omega
      have hw1 : IntKind.i64.wrap (q1 - 1) = q1 - 1 := by rw [wrap64] <;> omega
      have hw2 : IntKind.i64.wrap (q2 + 1) = q2 + 1 := by rw [wrap64] <;> omega
      repeat (first
       |(with_reducible first|apply X1|apply X2|apply X3|apply X4|apply X5|apply X6|apply X7|apply X8|apply X9|apply Y1|apply Y2|apply Y3|apply Y4|apply Y5|apply Y6|apply Y7|apply Y8|apply Y9)
       |((with_reducible apply q_block_other);decide)
       |((with_reducible first|apply e_end|apply d_end);(simp;exact Red.rfl))
       |((first|((with_reducible apply O1);rfl)|((with_reducible apply O2);rfl)|((with_reducible apply P1);rfl)|((with_reducible apply P2);rfl)|((with_reducible apply P3);rfl)|((with_reducible apply P4);rfl)|((with_reducible apply P5);rfl));(simp (disch:=omega) [hw1];exact Red.rfl);exact Red.rfl;(focus (first|(simp;done)|omega|(simp;omega))))
       |((with_reducible first|apply Z7|apply Z8|apply Z9);(simp (disch:=omega) [hw1];exact Red.rfl))
       |((with_reducible first|apply Z1|apply Z2|apply Z3|apply Z4|apply Z5|apply Z6);(simp (disch:=omega) [hw1];exact Red.rfl))
       |((with_reducible first|apply W1|apply W2|apply W3);(simp (disch:=omega) [hw1];exact Red.rfl))
       |((with_reducible apply P6);rfl;(simp (disch:=omega) [hw1];exact Red.rfl);exact Red.rfl;(focus (first|(simp [pr];done)|(simp [pr];omega))))
       |((with_reducible apply P7);rfl;(simp (disch:=omega) [hw1];exact Red.rfl);exact Red.rfl;(focus (simp [repast, pr, AOp.sem];done))))
      (with_reducible apply d_call); (simp; exact Red.rfl); exact c_span _ _ _; (focus (first | (simp; done) | (simp; omega)))
      repeat (first
       |(with_reducible first|apply X1|apply X2|apply X3|apply X4|apply X5|apply X6|apply X7|apply X8|apply X9|apply Y1|apply Y2|apply Y3|apply Y4|apply Y5|apply Y6|apply Y7|apply Y8|apply Y9)
       |((with_reducible apply q_block_other);decide)
       |((with_reducible first|apply e_end|apply d_end);(simp;exact Red.rfl))
       |((first|((with_reducible apply O1);rfl)|((with_reducible apply O2);rfl)|((with_reducible apply P1);rfl)|((with_reducible apply P2);rfl)|((with_reducible apply P3);rfl)|((with_reducible apply P4);rfl)|((with_reducible apply P5);rfl));(simp (disch:=omega) [hw2];exact Red.rfl);exact Red.rfl;(focus (first|(simp;done)|omega|(simp;omega))))
       |((with_reducible first|apply Z7|apply Z8|apply Z9);(simp (disch:=omega) [hw2];exact Red.rfl))
       |((with_reducible first|apply Z1|apply Z2|apply Z3|apply Z4|apply Z5|apply Z6);(simp (disch:=omega) [hw2];exact Red.rfl))
       |((with_reducible first|apply W1|apply W2|apply W3);(simp (disch:=omega) [hw2];exact Red.rfl))
       |((with_reducible apply P6);rfl;(simp (disch:=omega) [hw2];exact Red.rfl);exact Red.rfl;(focus (first|(simp [pr];done)|(simp [pr];omega))))
       |((with_reducible apply P7);rfl;(simp (disch:=omega) [hw2];exact Red.rfl);exact Red.rfl;(focus (simp [repast, pr, AOp.sem];done))))
      (with_reducible apply d_call); (simp; exact Red.rfl); exact c_span _ _ _; (focus (first | (simp; done) | (simp; omega)))
      repeat (first
       |(with_reducible first|apply X1|apply X2|apply X3|apply X4|apply X5|apply X6|apply X7|apply X8|apply X9|apply Y1|apply Y2|apply Y3|apply Y4|apply Y5|apply Y6|apply Y7|apply Y8|apply Y9)
       |((with_reducible apply q_block_other);decide)
       |((with_reducible first|apply e_end|apply d_end);(simp;exact Red.rfl))
       |((first|((with_reducible apply O1);rfl)|((with_reducible apply O2);rfl)|((with_reducible apply P1);rfl)|((with_reducible apply P2);rfl)|((with_reducible apply P3);rfl)|((with_reducible apply P4);rfl)|((with_reducible apply P5);rfl));(simp (disch:=omega);exact Red.rfl);exact Red.rfl;(focus (first|(simp;done)|omega|(simp;omega))))
       |((with_reducible first|apply Z7|apply Z8|apply Z9);(simp (disch:=omega);exact Red.rfl))
       |((with_reducible first|apply Z1|apply Z2|apply Z3|apply Z4|apply Z5|apply Z6);(simp (disch:=omega);exact Red.rfl))
       |((with_reducible first|apply W1|apply W2|apply W3);(simp (disch:=omega);exact Red.rfl))
       |((with_reducible apply P6);rfl;(simp (disch:=omega);exact Red.rfl);exact Red.rfl;(focus (first|(simp [pr];done)|(simp [pr];omega))))
       |((with_reducible apply P7);rfl;(simp (disch:=omega);exact Red.rfl);exact Red.rfl;(focus (simp [repast, pr, AOp.sem];done))))
      refine e_loop (ι := { p : Nat × Int × Int // p.1 ≤ 2 })
        (fun p => [(1, .slice mid moff ms.length 5 mex), (4, .ptr H.length 0), (9, .bool true), (14, .ptr (H.length + 4) 0), (155, .slice (H.length + 6) 0 2 2 true), (156, .int .i64 2), (157, .int .i64 p.1.1)])
        (fun p => H ++ [.cells [.slice id off l.length 9 ex] true, .cells (avR (fun j => (lefS l ms j).av) l.length) true, .cells [.slice (H.length + 1) 0 l.length 9 false] true, .cells [.int .i64 q1, .int .i64 q2] true,
          .cells [.int .u8 1, .int .i64 i, .int .i64 ((i : Int) + 1), .int .i64 p.1.2.1, .int .i64 p.1.2.2] true, .cells [.int .i64 q1, .int .i64 q2] true, .cells [.int .i64 0, .int .i64 (q1 - 1), .int .i64 (q2 + 1), .int .i64 360000] true]) (fun p => 2 - p.1.1) ⟨(0, u, w), by omega⟩ ?_ ?_
      · exact .inr <| le_same (by simp [pl.sc]; omega) (by simp [Red]; omega)
      rintro ⟨⟨j, u, w⟩, hj⟩
      dsimp only at hj ⊢
      by_cases hj2 : j < 2
      rotate_left
      · obtain rfl : j = 2 := by omega
        repeat (first
         |(with_reducible first|apply X1|apply X2|apply X3|apply X4|apply X5|apply X6|apply X7|apply X8|apply X9|apply Y1|apply Y2|apply Y3|apply Y4|apply Y5|apply Y6|apply Y7|apply Y8|apply Y9)
         |((with_reducible apply q_block_other);decide)
         |((with_reducible first|apply e_end|apply d_end);(simp;exact Red.rfl))
         |((first|((with_reducible apply O1);rfl)|((with_reducible apply O2);rfl)|((with_reducible apply P1);rfl)|((with_reducible apply P2);rfl)|((with_reducible apply P3);rfl)|((with_reducible apply P4);rfl)|((with_reducible apply P5);rfl));(simp (disch:=omega);exact Red.rfl);exact Red.rfl;(focus (first|(simp;done)|omega|(simp;omega))))
         |((with_reducible first|apply Z7|apply Z8|apply Z9);(simp (disch:=omega);exact Red.rfl))
         |((with_reducible first|apply Z1|apply Z2|apply Z3|apply Z4|apply Z5|apply Z6);(simp (disch:=omega);exact Red.rfl))
         |((with_reducible first|apply W1|apply W2|apply W3);(simp (disch:=omega);exact Red.rfl))
         |((with_reducible apply P6);rfl;(simp (disch:=omega);exact Red.rfl);exact Red.rfl;(focus (first|(simp [pr];done)|(simp [pr];omega))))
         |((with_reducible apply P7);rfl;(simp (disch:=omega);exact Red.rfl);exact Red.rfl;(focus (simp [repast, pr, AOp.sem];done))))
        refine q_stay (.inr rfl) (by simp; exact Red.rfl) rfl
      have hj3 : (j : Int) < 2 := by omega
      obtain ⟨a, b, hab, hdr⟩ : ∃ a b, ((a = 0 ∧ b = q1 - 1) ∨ (a = q2 + 1 ∧ b = 360000)) ∧ (List.drop (j * 2) [AV.int .i64 0, .int .i64 (q1 - 1), .int .i64 (q2 + 1), .int .i64 360000]).take 2 = [.int .i64 a, .int .i64 b] := by
        have : j = 0 ∨ j = 1 := by omega
        rcases this with rfl | rfl
        · exact ⟨_, _, .inl ⟨rfl, rfl⟩, rfl⟩
        · exact ⟨_, _, .inr ⟨rfl, rfl⟩, rfl⟩
      by_cases hba : b < a
      · repeat (first
         |(with_reducible first|apply X1|apply X2|apply X3|apply X4|apply X5|apply X6|apply X7|apply X8|apply X9|apply Y1|apply Y2|apply Y3|apply Y4|apply Y5|apply Y6|apply Y7|apply Y8|apply Y9)
         |((with_reducible apply q_block_other);decide)
         |((with_reducible first|apply e_end|apply d_end);(simp;exact Red.rfl))
         |((first|((with_reducible apply O1);rfl)|((with_reducible apply O2);rfl)|((with_reducible apply P1);rfl)|((with_reducible apply P2);rfl)|((with_reducible apply P3);rfl)|((with_reducible apply P4);rfl)|((with_reducible apply P5);rfl));(simp (disch:=omega) [hj2, hj3, hdr, show j ≤ 1 by omega, show j * 2 + 2 ≤ 4 by omega, show j * 2 ≤ 2 by omega, hba];exact Red.rfl);exact Red.rfl;(focus (first|(simp;done)|omega|(simp;omega))))
         |((with_reducible first|apply Z7|apply Z8|apply Z9);(simp (disch:=omega) [hj2, hj3, hdr, show j ≤ 1 by omega, show j * 2 + 2 ≤ 4 by omega, show j * 2 ≤ 2 by omega, hba];exact Red.rfl))
         |((with_reducible first|apply Z1|apply Z2|apply Z3|apply Z4|apply Z5|apply Z6);(simp (disch:=omega) [hj2, hj3, hdr, show j ≤ 1 by omega, show j * 2 + 2 ≤ 4 by omega, show j * 2 ≤ 2 by omega, hba];exact Red.rfl))
         |((with_reducible first|apply W1|apply W2|apply W3);(simp (disch:=omega) [hj2, hj3, hdr, show j ≤ 1 by omega, show j * 2 + 2 ≤ 4 by omega, show j * 2 ≤ 2 by omega, hba];exact Red.rfl))
         |((with_reducible apply P6);rfl;(simp (disch:=omega) [hj2, hj3, hdr, show j ≤ 1 by omega, show j * 2 + 2 ≤ 4 by omega, show j * 2 ≤ 2 by omega, hba];exact Red.rfl);exact Red.rfl;(focus (first|(simp [pr];done)|(simp [pr];omega))))
         |((with_reducible apply P7);rfl;(simp (disch:=omega) [hj2, hj3, hdr, show j ≤ 1 by omega, show j * 2 + 2 ≤ 4 by omega, show j * 2 ≤ 2 by omega, hba];exact Red.rfl);exact Red.rfl;(focus (simp [repast, pr, AOp.sem];done))))
        refine q_again ⟨(j + 1, u, w), by omega⟩ (by dsimp only; omega) (.inr ?_)
        exact le_take (G := [_, _, _, _, _, _, _]) (by simp [pl.sc]; omega) (by simp [Red]; omega)
      have hmok : (⟨1, i, (i : Int) + 1, a, b⟩ : Ms).ok l.length := by simp only [Ms.ok]; refine ⟨.inl trivial, ?_⟩; omega
      have okm2 := okMs_snoc okm h11 hmok
      have hnb : ¬ goodK kLong l (ms ++ [⟨1, i, (i : Int) + 1, a, b⟩]) := beyond_bad kLong_ok okm2.2 okm.2 hil rfl rfl rfl (by dsimp only; omega)
      have pm := plain_msE ms
      have lm := ms_lenE ms
      have hml : (ms ++ [(⟨1, i, (i : Int) + 1, a, b⟩ : Ms)]).length = ms.length + 1 := by simp
      have hfl : (ms ++ [(⟨1, i, (i : Int) + 1, a, b⟩ : Ms)]).flatMap Ms.av = ms.flatMap Ms.av ++ [.int .u8 1, .int .i64 i, .int .i64 ((i : Int) + 1), .int .i64 a, .int .i64 b] := by simp [Ms.av]
      have hnar := fun H2 mv hs2 hm2 => c_NarrowB H2 l id off ex (ms ++ [⟨1, i, (i : Int) + 1, a, b⟩]) mv hs2 hv hm2 (by omega) okm2 (fun h => hnb h.1)
      have hle1 : ms.length * 40 ≤ 140737488355328 := by omega
      have hle2 : (ms.length + 1) * 40 ≤ 140737488355328 := by omega
      repeat (first
       |(with_reducible first|apply X1|apply X2|apply X3|apply X4|apply X5|apply X6|apply X7|apply X8|apply X9|apply Y1|apply Y2|apply Y3|apply Y4|apply Y5|apply Y6|apply Y7|apply Y8|apply Y9)
       |((with_reducible apply q_block_other);decide)
       |((with_reducible first|apply e_end|apply d_end);(simp;exact Red.rfl))
       |((first|((with_reducible apply O1);rfl)|((with_reducible apply O2);rfl)|((with_reducible apply P1);rfl)|((with_reducible apply P2);rfl)|((with_reducible apply P3);rfl)|((with_reducible apply P4);rfl)|((with_reducible apply P5);rfl));(simp (disch:=omega) [hj2, hj3, hdr, show j ≤ 1 by omega, show j * 2 + 2 ≤ 4 by omega, show j * 2 ≤ 2 by omega, hba];exact Red.rfl);exact Red.rfl;(focus (first|(simp;done)|omega|(simp;omega))))
       |((with_reducible first|apply Z7|apply Z8|apply Z9);(simp (disch:=omega) [hj2, hj3, hdr, show j ≤ 1 by omega, show j * 2 + 2 ≤ 4 by omega, show j * 2 ≤ 2 by omega, hba];exact Red.rfl))
       |((with_reducible first|apply Z1|apply Z2|apply Z3|apply Z4|apply Z5|apply Z6);(simp (disch:=omega) [hj2, hj3, hdr, show j ≤ 1 by omega, show j * 2 + 2 ≤ 4 by omega, show j * 2 ≤ 2 by omega, hba];exact Red.rfl))
       |((with_reducible first|apply W1|apply W2|apply W3);(simp (disch:=omega) [hj2, hj3, hdr, show j ≤ 1 by omega, show j * 2 + 2 ≤ 4 by omega, show j * 2 ≤ 2 by omega, hba];exact Red.rfl))
       |((with_reducible apply P6);rfl;(simp (disch:=omega) [hj2, hj3, hdr, show j ≤ 1 by omega, show j * 2 + 2 ≤ 4 by omega, show j * 2 ≤ 2 by omega, hba];exact Red.rfl);exact Red.rfl;(focus (first|(simp [pr];done)|(simp [pr];omega))))
       |((with_reducible apply P7);rfl;(simp (disch:=omega) [hj2, hj3, hdr, show j ≤ 1 by omega, show j * 2 + 2 ≤ 4 by omega, show j * 2 ≤ 2 by omega, hba];exact Red.rfl);exact Red.rfl;(focus (simp [repast, pr, AOp.sem];done))))
      (with_reducible apply d_do_); rfl; rfl; (simp (disch := omega) [rd_old _ hmid, hm, lm, take_all lm]; exact Red.rfl); exact Red.rfl
      · refine ⟨by simpa using pm.scal, ?_⟩; omega
      · simp; omega
      · simp
      · simp [recheck, pr, AOp.sem]
      simp only [St.put]
      repeat (first
       |(with_reducible first|apply X1|apply X2|apply X3|apply X4|apply X5|apply X6|apply X7|apply X8|apply X9|apply Y1|apply Y2|apply Y3|apply Y4|apply Y5|apply Y6|apply Y7|apply Y8|apply Y9)
       |((with_reducible apply q_block_other);decide)
       |((with_reducible first|apply e_end|apply d_end);(simp;exact Red.rfl))
       |((first|((with_reducible apply O1);rfl)|((with_reducible apply O2);rfl)|((with_reducible apply P1);rfl)|((with_reducible apply P2);rfl)|((with_reducible apply P3);rfl)|((with_reducible apply P4);rfl)|((with_reducible apply P5);rfl));(simp (disch:=omega);exact Red.rfl);exact Red.rfl;(focus (first|(simp;done)|omega|(simp;omega))))
       |((with_reducible first|apply Z7|apply Z8|apply Z9);(simp (disch:=omega);exact Red.rfl))
       |((with_reducible first|apply Z1|apply Z2|apply Z3|apply Z4|apply Z5|apply Z6);(simp (disch:=omega);exact Red.rfl))
       |((with_reducible first|apply W1|apply W2|apply W3);(simp (disch:=omega);exact Red.rfl))
       |((with_reducible apply P6);rfl;(simp (disch:=omega);exact Red.rfl);exact Red.rfl;(focus (first|(simp [pr];done)|(simp [pr];omega))))
       |((with_reducible apply P7);rfl;(simp (disch:=omega);exact Red.rfl);exact Red.rfl;(focus (simp [repast, pr, AOp.sem];done))))
      (with_reducible apply d_do_); rfl; rfl; (simp (disch := omega) [lm, take_all lm]; exact Red.rfl); exact Red.rfl
      · simp [hle2]
      · simp
      · simp
      · simp [recheck, pr, AOp.sem]
      simp only [St.put]
      (with_reducible apply d_call); (simp; exact Red.rfl); exact hnar _ _ (by rw [rd_old _ hid]; exact hs) (.inr ⟨H.length + 11, 0, false, by rw [hml], by rw [hml, hfl]; exact rd_full (b := true) (by rw [at_new]; rfl) (by simp [lm]; omega)⟩); (focus (first | (simp; done) | (simp; omega)))
      repeat (first
       |(with_reducible first|apply X1|apply X2|apply X3|apply X4|apply X5|apply X6|apply X7|apply X8|apply X9|apply Y1|apply Y2|apply Y3|apply Y4|apply Y5|apply Y6|apply Y7|apply Y8|apply Y9)
       |((with_reducible apply q_block_other);decide)
       |((with_reducible first|apply e_end|apply d_end);(simp;exact Red.rfl))
       |((first|((with_reducible apply O1);rfl)|((with_reducible apply O2);rfl)|((with_reducible apply P1);rfl)|((with_reducible apply P2);rfl)|((with_reducible apply P3);rfl)|((with_reducible apply P4);rfl)|((with_reducible apply P5);rfl));(simp (disch:=omega);exact Red.rfl);exact Red.rfl;(focus (first|(simp;done)|omega|(simp;omega))))
       |((with_reducible first|apply Z7|apply Z8|apply Z9);(simp (disch:=omega);exact Red.rfl))
       |((with_reducible first|apply Z1|apply Z2|apply Z3|apply Z4|apply Z5|apply Z6);(simp (disch:=omega);exact Red.rfl))
       |((with_reducible first|apply W1|apply W2|apply W3);(simp (disch:=omega);exact Red.rfl))
       |((with_reducible apply P6);rfl;(simp (disch:=omega);exact Red.rfl);exact Red.rfl;(focus (first|(simp [pr];done)|(simp [pr];omega))))
       |((with_reducible apply P7);rfl;(simp (disch:=omega);exact Red.rfl);exact Red.rfl;(focus (simp [repast, pr, AOp.sem];done))))
      refine q_again ⟨(j + 1, a, b), by omega⟩ (by dsimp only; omega) (.inr ?_)
      exact le_take (G := [_, _, _, _, _, _, _]) (by simp [pl.sc]; omega) (by simp [Red]; omega)

set_option maxHeartbeats 4000000 in
theorem c_lawEndsT (H : Heap) (l : List Str) (ms : List Ms) (which : Int) (id off mid moff : Nat) (ex mex : Bool) (hs : rd H id off (l.length * 9) = some (l.flatMap Str.av))
    (hm : rd H mid moff (ms.length * 5) = some (ms.flatMap Ms.av)) (hw : 0 ≤ which ∧ which ≤ 255) (hn : (ms.length : Int) ≤ 9223372036854775807) (hk : ∀ i (h : i < ms.length), 0 ≤ ms[i].k ∧ ms[i].k ≤ 255) :
    ACalls Try.prog F.law01_TrackEnds [.agg [.slice id off l.length 9 ex], .slice mid moff ms.length 5 mex, .int .u8 which, .bool true] H (fun v _ => v = .bool true) := by
  refine acalls_of ok_law01_TrackEnds rfl fun hcl => ?_
  unfold ac_law01_TrackEnds
  simp only [argsT, Nat.zero_add, Nat.reduceAdd]
  have hid := rd_lt hs
  have hmid := rd_lt hm
  repeat (first
   |(with_reducible first|apply X1|apply X2|apply X3|apply X4|apply X5|apply X6|apply X7|apply X8|apply X9|apply Y1|apply Y2|apply Y3|apply Y4|apply Y5|apply Y6|apply Y7|apply Y8|apply Y9)
   |((with_reducible apply q_block_other);decide)
   |((with_reducible first|apply e_end|apply d_end);(simp;exact Red.rfl))
   |((first|((with_reducible apply O1);rfl)|((with_reducible apply O2);rfl)|((with_reducible apply P1);rfl)|((with_reducible apply P2);rfl)|((with_reducible apply P3);rfl)|((with_reducible apply P4);rfl)|((with_reducible apply P5);rfl));(simp (disch:=omega);exact Red.rfl);exact Red.rfl;(focus (first|(simp;done)|omega|(simp;omega))))
   |((with_reducible first|apply Z7|apply Z8|apply Z9);(simp (disch:=omega);exact Red.rfl))
   |((with_reducible first|apply Z1|apply Z2|apply Z3|apply Z4|apply Z5|apply Z6);(simp (disch:=omega);exact Red.rfl))
   |((with_reducible first|apply W1|apply W2|apply W3);(simp (disch:=omega);exact Red.rfl))
   |((with_reducible apply P6);rfl;(simp (disch:=omega);exact Red.rfl);exact Red.rfl;(focus (first|(simp [pr];done)|(simp [pr];omega))))
   |((with_reducible apply P7);rfl;(simp (disch:=omega);exact Red.rfl);exact Red.rfl;(focus (simp [repast, pr, AOp.sem];done))))
  (with_reducible apply e_call); (simp; exact Red.rfl); exact c_aliveE _
  rintro _ _ ⟨rfl, rfl⟩
  repeat (first
   |(with_reducible first|apply X1|apply X2|apply X3|apply X4|apply X5|apply X6|apply X7|apply X8|apply X9|apply Y1|apply Y2|apply Y3|apply Y4|apply Y5|apply Y6|apply Y7|apply Y8|apply Y9)
   |((with_reducible apply q_block_other);decide)
   |((with_reducible first|apply e_end|apply d_end);(simp;exact Red.rfl))
   |((first|((with_reducible apply O1);rfl)|((with_reducible apply O2);rfl)|((with_reducible apply P1);rfl)|((with_reducible apply P2);rfl)|((with_reducible apply P3);rfl)|((with_reducible apply P4);rfl)|((with_reducible apply P5);rfl));(simp (disch:=omega);exact Red.rfl);exact Red.rfl;(focus (first|(simp;done)|omega|(simp;omega))))
   |((with_reducible first|apply Z7|apply Z8|apply Z9);(simp (disch:=omega);exact Red.rfl))
   |((with_reducible first|apply Z1|apply Z2|apply Z3|apply Z4|apply Z5|apply Z6);(simp (disch:=omega);exact Red.rfl))
   |((with_reducible first|apply W1|apply W2|apply W3);(simp (disch:=omega);exact Red.rfl))
   |((with_reducible apply P6);rfl;(simp (disch:=omega);exact Red.rfl);exact Red.rfl;(focus (first|(simp [pr];done)|(simp [pr];omega))))
   |((with_reducible apply P7);rfl;(simp (disch:=omega);exact Red.rfl);exact Red.rfl;(focus (simp [repast, pr, AOp.sem];done))))
  (with_reducible apply e_call); (simp; exact Red.rfl); exact c_ready _ l id off ex (by rw [rd_old _ hid]; exact hs)
  rintro _ _ ⟨rfl, b, rfl, hbv⟩
  cases b with
  | false =>
    repeat (first
     |(with_reducible first|apply X1|apply X2|apply X3|apply X4|apply X5|apply X6|apply X7|apply X8|apply X9|apply Y1|apply Y2|apply Y3|apply Y4|apply Y5|apply Y6|apply Y7|apply Y8|apply Y9)
     |((with_reducible apply q_block_other);decide)
     |((with_reducible first|apply e_end|apply d_end);(simp;exact Red.rfl))
     |((first|((with_reducible apply O1);rfl)|((with_reducible apply O2);rfl)|((with_reducible apply P1);rfl)|((with_reducible apply P2);rfl)|((with_reducible apply P3);rfl)|((with_reducible apply P4);rfl)|((with_reducible apply P5);rfl));(simp (disch:=omega);exact Red.rfl);exact Red.rfl;(focus (first|(simp;done)|omega|(simp;omega))))
     |((with_reducible first|apply Z7|apply Z8|apply Z9);(simp (disch:=omega);exact Red.rfl))
     |((with_reducible first|apply Z1|apply Z2|apply Z3|apply Z4|apply Z5|apply Z6);(simp (disch:=omega);exact Red.rfl))
     |((with_reducible first|apply W1|apply W2|apply W3);(simp (disch:=omega);exact Red.rfl))
     |((with_reducible apply P6);rfl;(simp (disch:=omega);exact Red.rfl);exact Red.rfl;(focus (first|(simp [pr];done)|(simp [pr];omega))))
     |((with_reducible apply P7);rfl;(simp (disch:=omega);exact Red.rfl);exact Red.rfl;(focus (simp [repast, pr, AOp.sem];done))))
    exact q_drop (.inr rfl) (by simp; exact Red.rfl) (by simp) rfl
  | true =>
    have hv := hbv.1 rfl
    have h12 := hv.1
    repeat (first
     |(with_reducible first|apply X1|apply X2|apply X3|apply X4|apply X5|apply X6|apply X7|apply X8|apply X9|apply Y1|apply Y2|apply Y3|apply Y4|apply Y5|apply Y6|apply Y7|apply Y8|apply Y9)
     |((with_reducible apply q_block_other);decide)
     |((with_reducible first|apply e_end|apply d_end);(simp;exact Red.rfl))
     |((first|((with_reducible apply O1);rfl)|((with_reducible apply O2);rfl)|((with_reducible apply P1);rfl)|((with_reducible apply P2);rfl)|((with_reducible apply P3);rfl)|((with_reducible apply P4);rfl)|((with_reducible apply P5);rfl));(simp (disch:=omega);exact Red.rfl);exact Red.rfl;(focus (first|(simp;done)|omega|(simp;omega))))
     |((with_reducible first|apply Z7|apply Z8|apply Z9);(simp (disch:=omega);exact Red.rfl))
     |((with_reducible first|apply Z1|apply Z2|apply Z3|apply Z4|apply Z5|apply Z6);(simp (disch:=omega);exact Red.rfl))
     |((with_reducible first|apply W1|apply W2|apply W3);(simp (disch:=omega);exact Red.rfl))
     |((with_reducible apply P6);rfl;(simp (disch:=omega);exact Red.rfl);exact Red.rfl;(focus (first|(simp [pr];done)|(simp [pr];omega))))
     |((with_reducible apply P7);rfl;(simp (disch:=omega);exact Red.rfl);exact Red.rfl;(focus (simp [repast, pr, AOp.sem];done))))
    (with_reducible apply e_call); (simp; exact Red.rfl); exact c_rMeasures _ l.length id off ex ms mid moff mex (by simp; omega) (by rw [rd_old _ hmid]; exact hm) hn hk
    rintro _ _ ⟨rfl, b, rfl, hbm⟩
    cases b with
    | false =>
      repeat (first
       |(with_reducible first|apply X1|apply X2|apply X3|apply X4|apply X5|apply X6|apply X7|apply X8|apply X9|apply Y1|apply Y2|apply Y3|apply Y4|apply Y5|apply Y6|apply Y7|apply Y8|apply Y9)
       |((with_reducible apply q_block_other);decide)
       |((with_reducible first|apply e_end|apply d_end);(simp;exact Red.rfl))
       |((first|((with_reducible apply O1);rfl)|((with_reducible apply O2);rfl)|((with_reducible apply P1);rfl)|((with_reducible apply P2);rfl)|((with_reducible apply P3);rfl)|((with_reducible apply P4);rfl)|((with_reducible apply P5);rfl));(simp (disch:=omega);exact Red.rfl);exact Red.rfl;(focus (first|(simp;done)|omega|(simp;omega))))
       |((with_reducible first|apply Z7|apply Z8|apply Z9);(simp (disch:=omega);exact Red.rfl))
       |((with_reducible first|apply Z1|apply Z2|apply Z3|apply Z4|apply Z5|apply Z6);(simp (disch:=omega);exact Red.rfl))
       |((with_reducible first|apply W1|apply W2|apply W3);(simp (disch:=omega);exact Red.rfl))
       |((with_reducible apply P6);rfl;(simp (disch:=omega);exact Red.rfl);exact Red.rfl;(focus (first|(simp [pr];done)|(simp [pr];omega))))
       |((with_reducible apply P7);rfl;(simp (disch:=omega);exact Red.rfl);exact Red.rfl;(focus (simp [repast, pr, AOp.sem];done))))
      exact q_drop (.inr rfl) (by simp; exact Red.rfl) (by simp) rfl
    | true =>
      have okm := hbm.1 rfl
      by_cases h12m : ms.length = 12
      · have h12i : (ms.length : Int) = 12 := by omega
        repeat (first
         |(with_reducible first|apply X1|apply X2|apply X3|apply X4|apply X5|apply X6|apply X7|apply X8|apply X9|apply Y1|apply Y2|apply Y3|apply Y4|apply Y5|apply Y6|apply Y7|apply Y8|apply Y9)
         |((with_reducible apply q_block_other);decide)
         |((with_reducible first|apply e_end|apply d_end);(simp;exact Red.rfl))
         |((first|((with_reducible apply O1);rfl)|((with_reducible apply O2);rfl)|((with_reducible apply P1);rfl)|((with_reducible apply P2);rfl)|((with_reducible apply P3);rfl)|((with_reducible apply P4);rfl)|((with_reducible apply P5);rfl));(simp (disch:=omega) [h12m, h12i];exact Red.rfl);exact Red.rfl;(focus (first|(simp;done)|omega|(simp;omega))))
         |((with_reducible first|apply Z7|apply Z8|apply Z9);(simp (disch:=omega) [h12m, h12i];exact Red.rfl))
         |((with_reducible first|apply Z1|apply Z2|apply Z3|apply Z4|apply Z5|apply Z6);(simp (disch:=omega) [h12m, h12i];exact Red.rfl))
         |((with_reducible first|apply W1|apply W2|apply W3);(simp (disch:=omega) [h12m, h12i];exact Red.rfl))
         |((with_reducible apply P6);rfl;(simp (disch:=omega) [h12m, h12i];exact Red.rfl);exact Red.rfl;(focus (first|(simp [pr];done)|(simp [pr];omega))))
         |((with_reducible apply P7);rfl;(simp (disch:=omega) [h12m, h12i];exact Red.rfl);exact Red.rfl;(focus (simp [repast, pr, AOp.sem];done))))
        exact q_drop (.inr rfl) (by simp; exact Red.rfl) (by simp) rfl
      have h11 : ms.length < 12 := by have := okm.1; omega
      have h12i : ¬ (ms.length : Int) = 12 := by omega
      obtain ⟨i, hi, hil⟩ := mod_ltE (n := l.length) hw.1 (by omega)
      have hww : IntKind.i64.wrap which = which := by rw [wrap64] <;> omega
      repeat (first
       |(with_reducible first|apply X1|apply X2|apply X3|apply X4|apply X5|apply X6|apply X7|apply X8|apply X9|apply Y1|apply Y2|apply Y3|apply Y4|apply Y5|apply Y6|apply Y7|apply Y8|apply Y9)
       |((with_reducible apply q_block_other);decide)
       |((with_reducible first|apply e_end|apply d_end);(simp;exact Red.rfl))
       |((first|((with_reducible apply O1);rfl)|((with_reducible apply O2);rfl)|((with_reducible apply P1);rfl)|((with_reducible apply P2);rfl)|((with_reducible apply P3);rfl)|((with_reducible apply P4);rfl)|((with_reducible apply P5);rfl));(simp (disch:=omega) [h12m, h12i];exact Red.rfl);exact Red.rfl;(focus (first|(simp;done)|omega|(simp;omega))))
       |((with_reducible first|apply Z7|apply Z8|apply Z9);(simp (disch:=omega) [h12m, h12i];exact Red.rfl))
       |((with_reducible first|apply Z1|apply Z2|apply Z3|apply Z4|apply Z5|apply Z6);(simp (disch:=omega) [h12m, h12i];exact Red.rfl))
       |((with_reducible first|apply W1|apply W2|apply W3);(simp (disch:=omega) [h12m, h12i];exact Red.rfl))
       |((with_reducible apply P6);rfl;(simp (disch:=omega) [h12m, h12i];exact Red.rfl);exact Red.rfl;(focus (first|(simp [pr];done)|(simp [pr];omega))))
       |((with_reducible apply P7);rfl;(simp (disch:=omega) [h12m, h12i];exact Red.rfl);exact Red.rfl;(focus (simp [repast, pr, AOp.sem];done))))
      (with_reducible apply e_call); (simp; exact Red.rfl); exact c_Narrow _ l id off ex ms _ (by rw [rd_old _ hid]; exact hs) hv (.inr ⟨mid, moff, mex, rfl, by rw [rd_old _ hmid]; exact hm⟩) hn okm
      rintro _ _ (⟨rfl, hgL, hgF, rfl⟩ | ⟨rfl, rfl, hbad⟩)
      rotate_left
      · repeat (first
         |(with_reducible first|apply X1|apply X2|apply X3|apply X4|apply X5|apply X6|apply X7|apply X8|apply X9|apply Y1|apply Y2|apply Y3|apply Y4|apply Y5|apply Y6|apply Y7|apply Y8|apply Y9)
         |((with_reducible apply q_block_other);decide)
         |((with_reducible first|apply e_end|apply d_end);(simp;exact Red.rfl))
         |((first|((with_reducible apply O1);rfl)|((with_reducible apply O2);rfl)|((with_reducible apply P1);rfl)|((with_reducible apply P2);rfl)|((with_reducible apply P3);rfl)|((with_reducible apply P4);rfl)|((with_reducible apply P5);rfl));(simp (disch:=omega);exact Red.rfl);exact Red.rfl;(focus (first|(simp;done)|omega|(simp;omega))))
         |((with_reducible first|apply Z7|apply Z8|apply Z9);(simp (disch:=omega);exact Red.rfl))
         |((with_reducible first|apply Z1|apply Z2|apply Z3|apply Z4|apply Z5|apply Z6);(simp (disch:=omega);exact Red.rfl))
         |((with_reducible first|apply W1|apply W2|apply W3);(simp (disch:=omega);exact Red.rfl))
         |((with_reducible apply P6);rfl;(simp (disch:=omega);exact Red.rfl);exact Red.rfl;(focus (first|(simp [pr];done)|(simp [pr];omega))))
         |((with_reducible apply P7);rfl;(simp (disch:=omega);exact Red.rfl);exact Red.rfl;(focus (simp [repast, pr, AOp.sem];done))))
        exact q_drop (.inr rfl) (by simp; exact Red.rfl) (by simp) rfl
      have hil2 : (i : Int) < l.length := by omega
      have hne : ¬ l = [] := by intro h; rw [h] at h12; simp at h12
      have pS := plain_fun (lefS l ms)
      have ll := pS.length l.length
      have hg : goodK kFall l ms := hgF
      have hgo : goodK kLong l ms := hgL
      have hin : -closeK kFall l ms (i + 1) i ≤ closeK kFall l ms i (i + 1) := (closeK_in (k := kFall) okm.2 hg hil).2.1
      have hin0 : 0 ≤ -closeK kFall l ms (i + 1) i ∧ closeK kFall l ms i (i + 1) ≤ 30000 := by
        have h1 := closeK_in (k := kFall) okm.2 hg hil
        have h2 := kFall_ok.bd _ (by have := (hv.2 i hil).2.1; rwa [← strAt_eq hil] at this)
        simp only [kLo, kHi] at h1
        omega
      have hpart : ((avR (fun j => (lefS l ms j).av) l.length).drop (i * 9 + 3)).take 2 = [.int .i64 (-closeK kFall l ms (i + 1) i), .int .i64 (closeK kFall l ms i (i + 1))] := by
        rw [pS.part hil (by omega)]
        simp only [lefS, lefL, if_pos hil]
        rfl
      have hpart0 : ((avR (fun j => (lefS l ms j).av) l.length).drop (i * 9 + 1)).take 2 = [.int .i64 (lefS l ms i).lLo, .int .i64 (lefS l ms i).lHi] := by
        rw [pS.part hil (by omega)]; rfl
      have l2 : i * 9 + 3 + 2 ≤ l.length * 9 := by omega
      have l20 : i * 9 + 1 + 2 ≤ l.length * 9 := by omega
      have hlo : ∀ e, (e = -closeK kFall l ms (i + 1) i ∨ e = closeK kFall l ms i (i + 1)) → ∃ x, SatK kFall l (ms ++ [⟨2, i, (i : Int) + 1, e, e⟩]) x := fun e he => ends_come kFall_ok hv okm.2 hg hil he
      generalize hq1 : -closeK kFall l ms (i + 1) i = q1 at *
      generalize hq2 : closeK kFall l ms i (i + 1) = q2 at *
      repeat (first
       |(with_reducible first|apply X1|apply X2|apply X3|apply X4|apply X5|apply X6|apply X7|apply X8|apply X9|apply Y1|apply Y2|apply Y3|apply Y4|apply Y5|apply Y6|apply Y7|apply Y8|apply Y9)
       |((with_reducible apply q_block_other);decide)
       |((with_reducible first|apply e_end|apply d_end);(simp;exact Red.rfl))
       |((first|((with_reducible apply O1);rfl)|((with_reducible apply O2);rfl)|((with_reducible apply P1);rfl)|((with_reducible apply P2);rfl)|((with_reducible apply P3);rfl)|((with_reducible apply P4);rfl)|((with_reducible apply P5);rfl));(simp (disch:=omega) [hww, hi, hil, hil2, hne, ll, l2, l20, hpart, hpart0];exact Red.rfl);exact Red.rfl;(focus (first|(simp;done)|omega|(simp;omega))))
       |((with_reducible first|apply Z7|apply Z8|apply Z9);(simp (disch:=omega) [hww, hi, hil, hil2, hne, ll, l2, l20, hpart, hpart0];exact Red.rfl))
       |((with_reducible first|apply Z1|apply Z2|apply Z3|apply Z4|apply Z5|apply Z6);(simp (disch:=omega) [hww, hi, hil, hil2, hne, ll, l2, l20, hpart, hpart0];exact Red.rfl))
       |((with_reducible first|apply W1|apply W2|apply W3);(simp (disch:=omega) [hww, hi, hil, hil2, hne, ll, l2, l20, hpart, hpart0];exact Red.rfl))
       |((with_reducible apply P6);rfl;(simp (disch:=omega) [hww, hi, hil, hil2, hne, ll, l2, l20, hpart, hpart0];exact Red.rfl);exact Red.rfl;(focus (first|(simp [pr];done)|(simp [pr];omega))))
       |((with_reducible apply P7);rfl;(simp (disch:=omega) [hww, hi, hil, hil2, hne, ll, l2, l20, hpart, hpart0];exact Red.rfl);exact Red.rfl;(focus (simp [repast, pr, AOp.sem];done))))
      have pl := pS.plain l.length
      refine e_loop (ι := { p : Nat × Int × Int // p.1 ≤ 2 })
        (fun p => [(1, .slice mid moff ms.length 5 mex), (3, .bool true), (4, .ptr H.length 0), (9, .bool true), (12, .int .i64 i), (13, .ptr (H.length + 3) 0), (14, .ptr (H.length + 4) 0), (92, .slice (H.length + 5) 0 2 1 true), (93, .int .i64 2), (94, .int .i64 p.1.1)])
        (fun p => H ++ [.cells [.slice id off l.length 9 ex] true, .cells (avR (fun j => (lefS l ms j).av) l.length) true, .cells [.slice (H.length + 1) 0 l.length 9 false] true, .cells [.int .i64 q1, .int .i64 q2] true,
          .cells [.int .u8 2, .int .i64 i, .int .i64 ((i : Int) + 1), .int .i64 p.1.2.1, .int .i64 p.1.2.2] true, .cells [.int .i64 q1, .int .i64 q2] true]) (fun p => 2 - p.1.1) ⟨(0, 0, 0), by omega⟩ ?_ ?_
      · exact .inr <| le_same (by simp [pl.sc]; omega) (by simp [Red]; omega)
      rintro ⟨⟨j, u, w⟩, hj⟩
      dsimp only at hj ⊢
      by_cases hj2 : j < 2
      · have hj3 : (j : Int) < 2 := by omega
        obtain ⟨e, he, hdr⟩ : ∃ e, (e = q1 ∨ e = q2) ∧ (List.drop j [AV.int .i64 q1, .int .i64 q2]).take 1 = [.int .i64 e] := by
          have : j = 0 ∨ j = 1 := by omega
          rcases this with rfl | rfl
          · exact ⟨q1, .inl rfl, rfl⟩
          · exact ⟨q2, .inr rfl, rfl⟩
        obtain ⟨xK, hxK⟩ := hlo e he
        have hei : 0 ≤ e ∧ e ≤ 360000 := by rcases he with rfl | rfl <;> omega
        have hmok : (⟨2, i, (i : Int) + 1, e, e⟩ : Ms).ok l.length := by simp only [Ms.ok]; refine ⟨.inr trivial, ?_⟩; omega
        have okm2 := okMs_snoc okm h11 hmok
        have hxO : SatK kLong l (ms ++ [⟨2, i, (i : Int) + 1, e, e⟩]) (closeK kLong l ms 0) := satK_snoc.2 ⟨row_sat okm.2 hgo (Nat.zero_le _), fun h => by simp [kFall, kLong] at h⟩
        have hgK := good_of_sat okm2.2 hxK
        have hgO := good_of_sat okm2.2 hxO
        have hvl : validL (listS (lefS l (ms ++ [⟨2, i, (i : Int) + 1, e, e⟩])) l.length) := lefS_valid hv okm2.2 hgO hgK
        have hms := left_msE kFall_ok hv okm2.2 hgK (show ms.length < (ms ++ [(⟨2, i, (i : Int) + 1, e, e⟩ : Ms)]).length by simp) hil (by rw [List.getElem_concat_length rfl]; rfl) (by rw [List.getElem_concat_length rfl]) (by rw [List.getElem_concat_length rfl])
        rw [List.getElem_concat_length rfl] at hms
        dsimp only at hms
        have hin2 := (closeK_in (k := kFall) okm2.2 hgK hil).2.1
        have pS2 := plain_fun (lefS l (ms ++ [⟨2, i, (i : Int) + 1, e, e⟩]))
        have ll2 := pS2.length l.length
        have hpart2 : ((avR (fun j => (lefS l (ms ++ [⟨2, i, (i : Int) + 1, e, e⟩]) j).av) l.length).drop (i * 9 + 3)).take 2 = [.int .i64 e, .int .i64 e] := by
          rw [pS2.part hil (by omega)]
          have e1 : -closeK kFall l (ms ++ [⟨2, i, (i : Int) + 1, e, e⟩]) (i + 1) i = e := by omega
          have e2 : closeK kFall l (ms ++ [⟨2, i, (i : Int) + 1, e, e⟩]) i (i + 1) = e := by omega
          simp only [lefS, lefL, if_pos hil, e1, e2]
          rfl
        have hpart20 : ((avR (fun j => (lefS l (ms ++ [⟨2, i, (i : Int) + 1, e, e⟩]) j).av) l.length).drop (i * 9 + 1)).take 2 = [.int .i64 (lefS l (ms ++ [⟨2, i, (i : Int) + 1, e, e⟩]) i).lLo, .int .i64 (lefS l (ms ++ [⟨2, i, (i : Int) + 1, e, e⟩]) i).lHi] := by
          rw [pS2.part hil (by omega)]; rfl
        have pm := plain_msE ms
        have lm := ms_lenE ms
        have hml : (ms ++ [(⟨2, i, (i : Int) + 1, e, e⟩ : Ms)]).length = ms.length + 1 := by simp
        have hfl : (ms ++ [(⟨2, i, (i : Int) + 1, e, e⟩ : Ms)]).flatMap Ms.av = ms.flatMap Ms.av ++ [.int .u8 2, .int .i64 i, .int .i64 ((i : Int) + 1), .int .i64 e, .int .i64 e] := by simp [Ms.av]
        have hnar := fun H2 mv hs2 hm2 => c_NarrowG H2 l id off ex (ms ++ [⟨2, i, (i : Int) + 1, e, e⟩]) mv hs2 hv hm2 (by omega) okm2 hxO hxK
        generalize lefS l (ms ++ [⟨2, i, (i : Int) + 1, e, e⟩]) = S2 at *
        repeat (first
         |(with_reducible first|apply X1|apply X2|apply X3|apply X4|apply X5|apply X6|apply X7|apply X8|apply X9|apply Y1|apply Y2|apply Y3|apply Y4|apply Y5|apply Y6|apply Y7|apply Y8|apply Y9)
         |((with_reducible apply q_block_other);decide)
         |((with_reducible first|apply e_end|apply d_end);(simp;exact Red.rfl))
         |((first|((with_reducible apply O1);rfl)|((with_reducible apply O2);rfl)|((with_reducible apply P1);rfl)|((with_reducible apply P2);rfl)|((with_reducible apply P3);rfl)|((with_reducible apply P4);rfl)|((with_reducible apply P5);rfl));(simp (disch:=omega) [hj2, hj3, hdr, show j ≤ 1 by omega];exact Red.rfl);exact Red.rfl;(focus (first|(simp;done)|omega|(simp;omega))))
         |((with_reducible first|apply Z7|apply Z8|apply Z9);(simp (disch:=omega) [hj2, hj3, hdr, show j ≤ 1 by omega];exact Red.rfl))
         |((with_reducible first|apply Z1|apply Z2|apply Z3|apply Z4|apply Z5|apply Z6);(simp (disch:=omega) [hj2, hj3, hdr, show j ≤ 1 by omega];exact Red.rfl))
         |((with_reducible first|apply W1|apply W2|apply W3);(simp (disch:=omega) [hj2, hj3, hdr, show j ≤ 1 by omega];exact Red.rfl))
         |((with_reducible apply P6);rfl;(simp (disch:=omega) [hj2, hj3, hdr, show j ≤ 1 by omega];exact Red.rfl);exact Red.rfl;(focus (first|(simp [pr];done)|(simp [pr];omega))))
         |((with_reducible apply P7);rfl;(simp (disch:=omega) [hj2, hj3, hdr, show j ≤ 1 by omega];exact Red.rfl);exact Red.rfl;(focus (simp [repast, pr, AOp.sem];done))))
        (with_reducible apply e_call); (simp; exact Red.rfl); exact c_span _ _ _
        rintro _ _ ⟨rfl, rfl⟩
        have hle : (0 + ms.length) * 40 ≤ 140737488355328 := by omega
        have hle1 : ms.length * 40 ≤ 140737488355328 := by omega
        have hle2 : (ms.length + 1) * 40 ≤ 140737488355328 := by omega
        repeat (first
         |(with_reducible first|apply X1|apply X2|apply X3|apply X4|apply X5|apply X6|apply X7|apply X8|apply X9|apply Y1|apply Y2|apply Y3|apply Y4|apply Y5|apply Y6|apply Y7|apply Y8|apply Y9)
         |((with_reducible apply q_block_other);decide)
         |((with_reducible first|apply e_end|apply d_end);(simp;exact Red.rfl))
         |((first|((with_reducible apply O1);rfl)|((with_reducible apply O2);rfl)|((with_reducible apply P1);rfl)|((with_reducible apply P2);rfl)|((with_reducible apply P3);rfl)|((with_reducible apply P4);rfl)|((with_reducible apply P5);rfl));(simp (disch:=omega);exact Red.rfl);exact Red.rfl;(focus (first|(simp;done)|omega|(simp;omega))))
         |((with_reducible first|apply Z7|apply Z8|apply Z9);(simp (disch:=omega);exact Red.rfl))
         |((with_reducible first|apply Z1|apply Z2|apply Z3|apply Z4|apply Z5|apply Z6);(simp (disch:=omega);exact Red.rfl))
         |((with_reducible first|apply W1|apply W2|apply W3);(simp (disch:=omega);exact Red.rfl))
         |((with_reducible apply P6);rfl;(simp (disch:=omega);exact Red.rfl);exact Red.rfl;(focus (first|(simp [pr];done)|(simp [pr];omega))))
         |((with_reducible apply P7);rfl;(simp (disch:=omega);exact Red.rfl);exact Red.rfl;(focus (simp [repast, pr, AOp.sem];done))))
        (with_reducible apply d_do_); rfl; rfl; (simp (disch := omega) [rd_old _ hmid, hm, lm, take_all lm]; exact Red.rfl); exact Red.rfl
        · refine ⟨by simpa using pm.scal, ?_⟩; omega
        · simp; omega
        · simp
        · simp [recheck, pr, AOp.sem]
        simp only [St.put]
        repeat (first
         |(with_reducible first|apply X1|apply X2|apply X3|apply X4|apply X5|apply X6|apply X7|apply X8|apply X9|apply Y1|apply Y2|apply Y3|apply Y4|apply Y5|apply Y6|apply Y7|apply Y8|apply Y9)
         |((with_reducible apply q_block_other);decide)
         |((with_reducible first|apply e_end|apply d_end);(simp;exact Red.rfl))
         |((first|((with_reducible apply O1);rfl)|((with_reducible apply O2);rfl)|((with_reducible apply P1);rfl)|((with_reducible apply P2);rfl)|((with_reducible apply P3);rfl)|((with_reducible apply P4);rfl)|((with_reducible apply P5);rfl));(simp (disch:=omega);exact Red.rfl);exact Red.rfl;(focus (first|(simp;done)|omega|(simp;omega))))
         |((with_reducible first|apply Z7|apply Z8|apply Z9);(simp (disch:=omega);exact Red.rfl))
         |((with_reducible first|apply Z1|apply Z2|apply Z3|apply Z4|apply Z5|apply Z6);(simp (disch:=omega);exact Red.rfl))
         |((with_reducible first|apply W1|apply W2|apply W3);(simp (disch:=omega);exact Red.rfl))
         |((with_reducible apply P6);rfl;(simp (disch:=omega);exact Red.rfl);exact Red.rfl;(focus (first|(simp [pr];done)|(simp [pr];omega))))
         |((with_reducible apply P7);rfl;(simp (disch:=omega);exact Red.rfl);exact Red.rfl;(focus (simp [repast, pr, AOp.sem];done))))
        (with_reducible apply d_do_); rfl; rfl; (simp (disch := omega) [lm, take_all lm]; exact Red.rfl); exact Red.rfl
        · simp [hle2]
        · simp
        · simp
        · simp [recheck, pr, AOp.sem]
        simp only [St.put]
        (with_reducible apply d_call_); (simp; exact Red.rfl); exact hnar _ _ (by rw [rd_old _ hid]; exact hs) (.inr ⟨H.length + 9, 0, false, by rw [hml], by rw [hml, hfl]; exact rd_full (b := true) (by rw [at_new]; rfl) (by simp [lm]; omega)⟩); (focus (first | (simp; done) | (simp; omega)))
        repeat (first
         |(with_reducible first|apply X1|apply X2|apply X3|apply X4|apply X5|apply X6|apply X7|apply X8|apply X9|apply Y1|apply Y2|apply Y3|apply Y4|apply Y5|apply Y6|apply Y7|apply Y8|apply Y9)
         |((with_reducible apply q_block_other);decide)
         |((with_reducible first|apply e_end|apply d_end);(simp;exact Red.rfl))
         |((first|((with_reducible apply O1);rfl)|((with_reducible apply O2);rfl)|((with_reducible apply P1);rfl)|((with_reducible apply P2);rfl)|((with_reducible apply P3);rfl)|((with_reducible apply P4);rfl)|((with_reducible apply P5);rfl));(simp (disch:=omega);exact Red.rfl);exact Red.rfl;(focus (first|(simp;done)|omega|(simp;omega))))
         |((with_reducible first|apply Z7|apply Z8|apply Z9);(simp (disch:=omega);exact Red.rfl))
         |((with_reducible first|apply Z1|apply Z2|apply Z3|apply Z4|apply Z5|apply Z6);(simp (disch:=omega);exact Red.rfl))
         |((with_reducible first|apply W1|apply W2|apply W3);(simp (disch:=omega);exact Red.rfl))
         |((with_reducible apply P6);rfl;(simp (disch:=omega);exact Red.rfl);exact Red.rfl;(focus (first|(simp [pr];done)|(simp [pr];omega))))
         |((with_reducible apply P7);rfl;(simp (disch:=omega);exact Red.rfl);exact Red.rfl;(focus (simp [repast, pr, AOp.sem];done))))
        (with_reducible apply e_call); (simp; exact Red.rfl); exact c_rTrackE _ S2 l.length (H.length + 10) true false (by rw [at_new]; rfl) (by omega) hvl
        rintro _ _ ⟨rfl, rfl⟩
        repeat (first
         |(with_reducible first|apply X1|apply X2|apply X3|apply X4|apply X5|apply X6|apply X7|apply X8|apply X9|apply Y1|apply Y2|apply Y3|apply Y4|apply Y5|apply Y6|apply Y7|apply Y8|apply Y9)
         |((with_reducible apply q_block_other);decide)
         |((with_reducible first|apply e_end|apply d_end);(simp;exact Red.rfl))
         |((first|((with_reducible apply O1);rfl)|((with_reducible apply O2);rfl)|((with_reducible apply P1);rfl)|((with_reducible apply P2);rfl)|((with_reducible apply P3);rfl)|((with_reducible apply P4);rfl)|((with_reducible apply P5);rfl));(simp (disch:=omega) [hil, hil2, hne, ll2, l2, l20, hpart2, hpart20];exact Red.rfl);exact Red.rfl;(focus (first|(simp;done)|omega|(simp;omega))))
         |((with_reducible first|apply Z7|apply Z8|apply Z9);(simp (disch:=omega) [hil, hil2, hne, ll2, l2, l20, hpart2, hpart20];exact Red.rfl))
         |((with_reducible first|apply Z1|apply Z2|apply Z3|apply Z4|apply Z5|apply Z6);(simp (disch:=omega) [hil, hil2, hne, ll2, l2, l20, hpart2, hpart20];exact Red.rfl))
         |((with_reducible first|apply W1|apply W2|apply W3);(simp (disch:=omega) [hil, hil2, hne, ll2, l2, l20, hpart2, hpart20];exact Red.rfl))
         |((with_reducible apply P6);rfl;(simp (disch:=omega) [hil, hil2, hne, ll2, l2, l20, hpart2, hpart20];exact Red.rfl);exact Red.rfl;(focus (first|(simp [pr];done)|(simp [pr];omega))))
         |((with_reducible apply P7);rfl;(simp (disch:=omega) [hil, hil2, hne, ll2, l2, l20, hpart2, hpart20];exact Red.rfl);exact Red.rfl;(focus (simp [repast, pr, AOp.sem];done))))
        refine q_again ⟨(j + 1, e, e), by omega⟩ (by dsimp only; omega) (.inr ?_)
        exact le_take (G := [_, _, _, _, _, _]) (by simp [pl.sc]; omega) (by simp [Red]; omega)
      obtain rfl : j = 2 := by omega
      have hw1 : IntKind.i64.wrap (q1 - 1) = q1 - 1 := by rw [wrap64] <;> omega
      have hw2 : IntKind.i64.wrap (q2 + 1) = q2 + 1 := by rw [wrap64] <;> omega
      repeat (first
       |(with_reducible first|apply X1|apply X2|apply X3|apply X4|apply X5|apply X6|apply X7|apply X8|apply X9|apply Y1|apply Y2|apply Y3|apply Y4|apply Y5|apply Y6|apply Y7|apply Y8|apply Y9)
       |((with_reducible apply q_block_other);decide)
       |((with_reducible first|apply e_end|apply d_end);(simp;exact Red.rfl))
       |((first|((with_reducible apply O1);rfl)|((with_reducible apply O2);rfl)|((with_reducible apply P1);rfl)|((with_reducible apply P2);rfl)|((with_reducible apply P3);rfl)|((with_reducible apply P4);rfl)|((with_reducible apply P5);rfl));(simp (disch:=omega) [hw1];exact Red.rfl);exact Red.rfl;(focus (first|(simp;done)|omega|(simp;omega))))
       |((with_reducible first|apply Z7|apply Z8|apply Z9);(simp (disch:=omega) [hw1];exact Red.rfl))
       |((with_reducible first|apply Z1|apply Z2|apply Z3|apply Z4|apply Z5|apply Z6);(simp (disch:=omega) [hw1];exact Red.rfl))
       |((with_reducible first|apply W1|apply W2|apply W3);(simp (disch:=omega) [hw1];exact Red.rfl))
       |((with_reducible apply P6);rfl;(simp (disch:=omega) [hw1];exact Red.rfl);exact Red.rfl;(focus (first|(simp [pr];done)|(simp [pr];omega))))
       |((with_reducible apply P7);rfl;(simp (disch:=omega) [hw1];exact Red.rfl);exact Red.rfl;(focus (simp [repast, pr, AOp.sem];done))))
      (with_reducible apply d_call); (simp; exact Red.rfl); exact c_span _ _ _; (focus (first | (simp; done) | (simp; omega)))
      repeat (first
       |(with_reducible first|apply X1|apply X2|apply X3|apply X4|apply X5|apply X6|apply X7|apply X8|apply X9|apply Y1|apply Y2|apply Y3|apply Y4|apply Y5|apply Y6|apply Y7|apply Y8|apply Y9)
       |((with_reducible apply q_block_other);decide)
       |((with_reducible first|apply e_end|apply d_end);(simp;exact Red.rfl))
       |((first|((with_reducible apply O1);rfl)|((with_reducible apply O2);rfl)|((with_reducible apply P1);rfl)|((with_reducible apply P2);rfl)|((with_reducible apply P3);rfl)|((with_reducible apply P4);rfl)|((with_reducible apply P5);rfl));(simp (disch:=omega) [hw2];exact Red.rfl);exact Red.rfl;(focus (first|(simp;done)|omega|(simp;omega))))
       |((with_reducible first|apply Z7|apply Z8|apply Z9);(simp (disch:=omega) [hw2];exact Red.rfl))
       |((with_reducible first|apply Z1|apply Z2|apply Z3|apply Z4|apply Z5|apply Z6);(simp (disch:=omega) [hw2];exact Red.rfl))
       |((with_reducible first|apply W1|apply W2|apply W3);(simp (disch:=omega) [hw2];exact Red.rfl))
       |((with_reducible apply P6);rfl;(simp (disch:=omega) [hw2];exact Red.rfl);exact Red.rfl;(focus (first|(simp [pr];done)|(simp [pr];omega))))
       |((with_reducible apply P7);rfl;(simp (disch:=omega) [hw2];exact Red.rfl);exact Red.rfl;(focus (simp [repast, pr, AOp.sem];done))))
      (with_reducible apply d_call); (simp; exact Red.rfl); exact c_span _ _ _; (focus (first | (simp; done) | (simp; omega)))
      repeat (first
       |(with_reducible first|apply X1|apply X2|apply X3|apply X4|apply X5|apply X6|apply X7|apply X8|apply X9|apply Y1|apply Y2|apply Y3|apply Y4|apply Y5|apply Y6|apply Y7|apply Y8|apply Y9)
       |((with_reducible apply q_block_other);decide)
       |((with_reducible first|apply e_end|apply d_end);(simp;exact Red.rfl))
       |((first|((with_reducible apply O1);rfl)|((with_reducible apply O2);rfl)|((with_reducible apply P1);rfl)|((with_reducible apply P2);rfl)|((with_reducible apply P3);rfl)|((with_reducible apply P4);rfl)|((with_reducible apply P5);rfl));(simp (disch:=omega);exact Red.rfl);exact Red.rfl;(focus (first|(simp;done)|omega|(simp;omega))))
       |((with_reducible first|apply Z7|apply Z8|apply Z9);(simp (disch:=omega);exact Red.rfl))
       |((with_reducible first|apply Z1|apply Z2|apply Z3|apply Z4|apply Z5|apply Z6);(simp (disch:=omega);exact Red.rfl))
       |((with_reducible first|apply W1|apply W2|apply W3);(simp (disch:=omega);exact Red.rfl))
       |((with_reducible apply P6);rfl;(simp (disch:=omega);exact Red.rfl);exact Red.rfl;(focus (first|(simp [pr];done)|(simp [pr];omega))))
       |((with_reducible apply P7);rfl;(simp (disch:=omega);exact Red.rfl);exact Red.rfl;(focus (simp [repast, pr, AOp.sem];done))))
      refine e_loop (ι := { p : Nat × Int × Int // p.1 ≤ 2 })
        (fun p => [(1, .slice mid moff ms.length 5 mex), (4, .ptr H.length 0), (9, .bool true), (14, .ptr (H.length + 4) 0), (155, .slice (H.length + 6) 0 2 2 true), (156, .int .i64 2), (157, .int .i64 p.1.1)])
        (fun p => H ++ [.cells [.slice id off l.length 9 ex] true, .cells (avR (fun j => (lefS l ms j).av) l.length) true, .cells [.slice (H.length + 1) 0 l.length 9 false] true, .cells [.int .i64 q1, .int .i64 q2] true,
          .cells [.int .u8 2, .int .i64 i, .int .i64 ((i : Int) + 1), .int .i64 p.1.2.1, .int .i64 p.1.2.2] true, .cells [.int .i64 q1, .int .i64 q2] true, .cells [.int .i64 0, .int .i64 (q1 - 1), .int .i64 (q2 + 1), .int .i64 360000] true]) (fun p => 2 - p.1.1) ⟨(0, u, w), by omega⟩ ?_ ?_
      · exact .inr <| le_same (by simp [pl.sc]; omega) (by simp [Red]; omega)
      rintro ⟨⟨j, u, w⟩, hj⟩
      dsimp only at hj ⊢
      by_cases hj2 : j < 2
      rotate_left
      · obtain rfl : j = 2 := by omega
        repeat (first
         |(with_reducible first|apply X1|apply X2|apply X3|apply X4|apply X5|apply X6|apply X7|apply X8|apply X9|apply Y1|apply Y2|apply Y3|apply Y4|apply Y5|apply Y6|apply Y7|apply Y8|apply Y9)
         |((with_reducible apply q_block_other);decide)
         |((with_reducible first|apply e_end|apply d_end);(simp;exact Red.rfl))
         |((first|((with_reducible apply O1);rfl)|((with_reducible apply O2);rfl)|((with_reducible apply P1);rfl)|((with_reducible apply P2);rfl)|((with_reducible apply P3);rfl)|((with_reducible apply P4);rfl)|((with_reducible apply P5);rfl));(simp (disch:=omega);exact Red.rfl);exact Red.rfl;(focus (first|(simp;done)|omega|(simp;omega))))
         |((with_reducible first|apply Z7|apply Z8|apply Z9);(simp (disch:=omega);exact Red.rfl))
         |((with_reducible first|apply Z1|apply Z2|apply Z3|apply Z4|apply Z5|apply Z6);(simp (disch:=omega);exact Red.rfl))
         |((with_reducible first|apply W1|apply W2|apply W3);(simp (disch:=omega);exact Red.rfl))
         |((with_reducible apply P6);rfl;(simp (disch:=omega);exact Red.rfl);exact Red.rfl;(focus (first|(simp [pr];done)|(simp [pr];omega))))
         |((with_reducible apply P7);rfl;(simp (disch:=omega);exact Red.rfl);exact Red.rfl;(focus (simp [repast, pr, AOp.sem];done))))
        refine q_stay (.inr rfl) (by simp; exact Red.rfl) rfl
      have hj3 : (j : Int) < 2 := by omega
      obtain ⟨a, b, hab, hdr⟩ : ∃ a b, ((a = 0 ∧ b = q1 - 1) ∨ (a = q2 + 1 ∧ b = 360000)) ∧ (List.drop (j * 2) [AV.int .i64 0, .int .i64 (q1 - 1), .int .i64 (q2 + 1), .int .i64 360000]).take 2 = [.int .i64 a, .int .i64 b] := by
        have : j = 0 ∨ j = 1 := by omega
        rcases this with rfl | rfl
        · exact ⟨_, _, .inl ⟨rfl, rfl⟩, rfl⟩
        · exact ⟨_, _, .inr ⟨rfl, rfl⟩, rfl⟩
      by_cases hba : b < a
      · repeat (first
         |(with_reducible first|apply X1|apply X2|apply X3|apply X4|apply X5|apply X6|apply X7|apply X8|apply X9|apply Y1|apply Y2|apply Y3|apply Y4|apply Y5|apply Y6|apply Y7|apply Y8|apply Y9)
         |((with_reducible apply q_block_other);decide)
         |((with_reducible first|apply e_end|apply d_end);(simp;exact Red.rfl))
         |((first|((with_reducible apply O1);rfl)|((with_reducible apply O2);rfl)|((with_reducible apply P1);rfl)|((with_reducible apply P2);rfl)|((with_reducible apply P3);rfl)|((with_reducible apply P4);rfl)|((with_reducible apply P5);rfl));(simp (disch:=omega) [hj2, hj3, hdr, show j ≤ 1 by omega, show j * 2 + 2 ≤ 4 by omega, show j * 2 ≤ 2 by omega, hba];exact Red.rfl);exact Red.rfl;(focus (first|(simp;done)|omega|(simp;omega))))
         |((with_reducible first|apply Z7|apply Z8|apply Z9);(simp (disch:=omega) [hj2, hj3, hdr, show j ≤ 1 by omega, show j * 2 + 2 ≤ 4 by omega, show j * 2 ≤ 2 by omega, hba];exact Red.rfl))
         |((with_reducible first|apply Z1|apply Z2|apply Z3|apply Z4|apply Z5|apply Z6);(simp (disch:=omega) [hj2, hj3, hdr, show j ≤ 1 by omega, show j * 2 + 2 ≤ 4 by omega, show j * 2 ≤ 2 by omega, hba];exact Red.rfl))
         |((with_reducible first|apply W1|apply W2|apply W3);(simp (disch:=omega) [hj2, hj3, hdr, show j ≤ 1 by omega, show j * 2 + 2 ≤ 4 by omega, show j * 2 ≤ 2 by omega, hba];exact Red.rfl))
         |((with_reducible apply P6);rfl;(simp (disch:=omega) [hj2, hj3, hdr, show j ≤ 1 by omega, show j * 2 + 2 ≤ 4 by omega, show j * 2 ≤ 2 by omega, hba];exact Red.rfl);exact Red.rfl;(focus (first|(simp [pr];done)|(simp [pr];omega))))
         |((with_reducible apply P7);rfl;(simp (disch:=omega) [hj2, hj3, hdr, show j ≤ 1 by omega, show j * 2 + 2 ≤ 4 by omega, show j * 2 ≤ 2 by omega, hba];exact Red.rfl);exact Red.rfl;(focus (simp [repast, pr, AOp.sem];done))))
        refine q_again ⟨(j + 1, u, w), by omega⟩ (by dsimp only; omega) (.inr ?_)
        exact le_take (G := [_, _, _, _, _, _, _]) (by simp [pl.sc]; omega) (by simp [Red]; omega)
      have hmok : (⟨2, i, (i : Int) + 1, a, b⟩ : Ms).ok l.length := by simp only [Ms.ok]; refine ⟨.inr trivial, ?_⟩; omega
      have okm2 := okMs_snoc okm h11 hmok
      have hnb : ¬ goodK kFall l (ms ++ [⟨2, i, (i : Int) + 1, a, b⟩]) := beyond_bad kFall_ok okm2.2 okm.2 hil rfl rfl rfl (by dsimp only; omega)
      have pm := plain_msE ms
      have lm := ms_lenE ms
      have hml : (ms ++ [(⟨2, i, (i : Int) + 1, a, b⟩ : Ms)]).length = ms.length + 1 := by simp
      have hfl : (ms ++ [(⟨2, i, (i : Int) + 1, a, b⟩ : Ms)]).flatMap Ms.av = ms.flatMap Ms.av ++ [.int .u8 2, .int .i64 i, .int .i64 ((i : Int) + 1), .int .i64 a, .int .i64 b] := by simp [Ms.av]
      have hnar := fun H2 mv hs2 hm2 => c_NarrowB H2 l id off ex (ms ++ [⟨2, i, (i : Int) + 1, a, b⟩]) mv hs2 hv hm2 (by omega) okm2 (fun h => hnb h.2)
      have hle1 : ms.length * 40 ≤ 140737488355328 := by omega
      have hle2 : (ms.length + 1) * 40 ≤ 140737488355328 := by omega
      repeat (first
       |(with_reducible first|apply X1|apply X2|apply X3|apply X4|apply X5|apply X6|apply X7|apply X8|apply X9|apply Y1|apply Y2|apply Y3|apply Y4|apply Y5|apply Y6|apply Y7|apply Y8|apply Y9)
       |((with_reducible apply q_block_other);decide)
       |((with_reducible first|apply e_end|apply d_end);(simp;exact Red.rfl))
       |((first|((with_reducible apply O1);rfl)|((with_reducible apply O2);rfl)|((with_reducible apply P1);rfl)|((with_reducible apply P2);rfl)|((with_reducible apply P3);rfl)|((with_reducible apply P4);rfl)|((with_reducible apply P5);rfl));(simp (disch:=omega) [hj2, hj3, hdr, show j ≤ 1 by omega, show j * 2 + 2 ≤ 4 by omega, show j * 2 ≤ 2 by omega, hba];exact Red.rfl);exact Red.rfl;(focus (first|(simp;done)|omega|(simp;omega))))
       |((with_reducible first|apply Z7|apply Z8|apply Z9);(simp (disch:=omega) [hj2, hj3, hdr, show j ≤ 1 by omega, show j * 2 + 2 ≤ 4 by omega, show j * 2 ≤ 2 by omega, hba];exact Red.rfl))
       |((with_reducible first|apply Z1|apply Z2|apply Z3|apply Z4|apply Z5|apply Z6);(simp (disch:=omega) [hj2, hj3, hdr, show j ≤ 1 by omega, show j * 2 + 2 ≤ 4 by omega, show j * 2 ≤ 2 by omega, hba];exact Red.rfl))
       |((with_reducible first|apply W1|apply W2|apply W3);(simp (disch:=omega) [hj2, hj3, hdr, show j ≤ 1 by omega, show j * 2 + 2 ≤ 4 by omega, show j * 2 ≤ 2 by omega, hba];exact Red.rfl))
       |((with_reducible apply P6);rfl;(simp (disch:=omega) [hj2, hj3, hdr, show j ≤ 1 by omega, show j * 2 + 2 ≤ 4 by omega, show j * 2 ≤ 2 by omega, hba];exact Red.rfl);exact Red.rfl;(focus (first|(simp [pr];done)|(simp [pr];omega))))
       |((with_reducible apply P7);rfl;(simp (disch:=omega) [hj2, hj3, hdr, show j ≤ 1 by omega, show j * 2 + 2 ≤ 4 by omega, show j * 2 ≤ 2 by omega, hba];exact Red.rfl);exact Red.rfl;(focus (simp [repast, pr, AOp.sem];done))))
      (with_reducible apply d_do_); rfl; rfl; (simp (disch := omega) [rd_old _ hmid, hm, lm, take_all lm]; exact Red.rfl); exact Red.rfl
      · refine ⟨by simpa using pm.scal, ?_⟩; omega
      · simp; omega
      · simp
      · simp [recheck, pr, AOp.sem]
      simp only [St.put]
      repeat (first
       |(with_reducible first|apply X1|apply X2|apply X3|apply X4|apply X5|apply X6|apply X7|apply X8|apply X9|apply Y1|apply Y2|apply Y3|apply Y4|apply Y5|apply Y6|apply Y7|apply Y8|apply Y9)
       |((with_reducible apply q_block_other);decide)
       |((with_reducible first|apply e_end|apply d_end);(simp;exact Red.rfl))
       |((first|((with_reducible apply O1);rfl)|((with_reducible apply O2);rfl)|((with_reducible apply P1);rfl)|((with_reducible apply P2);rfl)|((with_reducible apply P3);rfl)|((with_reducible apply P4);rfl)|((with_reducible apply P5);rfl));(simp (disch:=omega);exact Red.rfl);exact Red.rfl;(focus (first|(simp;done)|omega|(simp;omega))))
       |((with_reducible first|apply Z7|apply Z8|apply Z9);(simp (disch:=omega);exact Red.rfl))
       |((with_reducible first|apply Z1|apply Z2|apply Z3|apply Z4|apply Z5|apply Z6);(simp (disch:=omega);exact Red.rfl))
       |((with_reducible first|apply W1|apply W2|apply W3);(simp (disch:=omega);exact Red.rfl))
       |((with_reducible apply P6);rfl;(simp (disch:=omega);exact Red.rfl);exact Red.rfl;(focus (first|(simp [pr];done)|(simp [pr];omega))))
       |((with_reducible apply P7);rfl;(simp (disch:=omega);exact Red.rfl);exact Red.rfl;(focus (simp [repast, pr, AOp.sem];done))))
      (with_reducible apply d_do_); rfl; rfl; (simp (disch := omega) [lm, take_all lm]; exact Red.rfl); exact Red.rfl
      · simp [hle2]
      · simp
      · simp
      · simp [recheck, pr, AOp.sem]
      simp only [St.put]
      (with_reducible apply d_call); (simp; exact Red.rfl); exact hnar _ _ (by rw [rd_old _ hid]; exact hs) (.inr ⟨H.length + 11, 0, false, by rw [hml], by rw [hml, hfl]; exact rd_full (b := true) (by rw [at_new]; rfl) (by simp [lm]; omega)⟩); (focus (first | (simp; done) | (simp; omega)))
      repeat (first
       |(with_reducible first|apply X1|apply X2|apply X3|apply X4|apply X5|apply X6|apply X7|apply X8|apply X9|apply Y1|apply Y2|apply Y3|apply Y4|apply Y5|apply Y6|apply Y7|apply Y8|apply Y9)
       |((with_reducible apply q_block_other);decide)
       |((with_reducible first|apply e_end|apply d_end);(simp;exact Red.rfl))
       |((first|((with_reducible apply O1);rfl)|((with_reducible apply O2);rfl)|((with_reducible apply P1);rfl)|((with_reducible apply P2);rfl)|((with_reducible apply P3);rfl)|((with_reducible apply P4);rfl)|((with_reducible apply P5);rfl));(simp (disch:=omega);exact Red.rfl);exact Red.rfl;(focus (first|(simp;done)|omega|(simp;omega))))
       |((with_reducible first|apply Z7|apply Z8|apply Z9);(simp (disch:=omega);exact Red.rfl))
       |((with_reducible first|apply Z1|apply Z2|apply Z3|apply Z4|apply Z5|apply Z6);(simp (disch:=omega);exact Red.rfl))
       |((with_reducible first|apply W1|apply W2|apply W3);(simp (disch:=omega);exact Red.rfl))
       |((with_reducible apply P6);rfl;(simp (disch:=omega);exact Red.rfl);exact Red.rfl;(focus (first|(simp [pr];done)|(simp [pr];omega))))
       |((with_reducible apply P7);rfl;(simp (disch:=omega);exact Red.rfl);exact Red.rfl;(focus (simp [repast, pr, AOp.sem];done))))
      refine q_again ⟨(j + 1, a, b), by omega⟩ (by dsimp only; omega) (.inr ?_)
      exact le_take (G := [_, _, _, _, _, _, _]) (by simp [pl.sc]; omega) (by simp [Red]; omega)

theorem c_lawEnds (H : Heap) (l : List Str) (ms : List Ms) (which : Int) (kd : Bool) (id off mid moff : Nat) (ex mex : Bool) (hs : rd H id off (l.length * 9) = some (l.flatMap Str.av))
    (hm : rd H mid moff (ms.length * 5) = some (ms.flatMap Ms.av)) (hw : 0 ≤ which ∧ which ≤ 255) (hn : (ms.length : Int) ≤ 9223372036854775807) (hk : ∀ i (h : i < ms.length), 0 ≤ ms[i].k ∧ ms[i].k ≤ 255) :
    ACalls Try.prog F.law01_TrackEnds [.agg [.slice id off l.length 9 ex], .slice mid moff ms.length 5 mex, .int .u8 which, .bool kd] H (fun v _ => v = .bool true) := by
  cases kd
  · exact c_lawEndsF H l ms which id off mid moff ex mex hs hm hw hn hk
  · exact c_lawEndsT H l ms which id off mid moff ex mex hs hm hw hn hk
theorem rowsMs : ∀ (h : Heap) (rows : List (List AV)), (∀ r ∈ rows, lookL h [.int .u8, .int .i64, .int .i64, .int .i64, .int .i64] r) →
    ∃ ms : List Ms, rows.flatten = ms.flatMap Ms.av ∧ ms.length = rows.length ∧ (ms.flatMap Ms.av).length = ms.length * 5 ∧ ∀ i (h : i < ms.length), 0 ≤ ms[i].k ∧ ms[i].k ≤ 255
  | _, [], _ => ⟨[], rfl, rfl, rfl, by intro i h; simp at h⟩
  | h, r :: rs, hr => by
    obtain ⟨l, h1, h2, h4, h5⟩ := rowsMs h rs (fun r' h' => hr r' (List.mem_cons_of_mem _ h'))
    have h3 := hr r (List.mem_cons_self ..)
    simp only [lookL, QK.look] at h3
    obtain ⟨_, _, rfl, ⟨a1, rfl, b1, b2⟩, _, _, rfl, ⟨a2, rfl, _⟩, _, _, rfl, ⟨a3, rfl, _⟩, _, _, rfl, ⟨a4, rfl, _⟩, _, _, rfl, ⟨a5, rfl, _⟩, rfl⟩ := h3
    refine ⟨⟨a1, a2, a3, a4, a5⟩ :: l, by simp [h1, Ms.av], by simp [h2], by rw [List.flatMap_cons, List.length_append, h4, Ms.av_length, List.length_cons]; omega, fun i hi => ?_⟩
    cases i with
    | zero => exact ⟨b1, b2⟩
    | succ i => exact h5 i (by simpa using hi)
end Go.Proofs
