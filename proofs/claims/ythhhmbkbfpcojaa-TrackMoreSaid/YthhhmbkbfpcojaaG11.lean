/- What was narrowed, narrowed again. -/
import Derived.Test.YthhhmbkbfpcojaaG9
namespace Go.Proofs
open Go.Abs
attribute [local simp] AOp.den AOpd.ev lk cellsOf rd_new rd_new0 rd_zero rd_succ wr_new wr_new0 wr_zero wr_succ splice fillA binA scal sliceCells List.length_append argsT AV.sc scL AObj.sc resV getAll AR.get AOp.slots opdSlots opdsSlots partSlots eqAt at_new0 at_new set_new0 set_new wrap64
set_option linter.unusedSimpArgs false
set_option linter.unusedVariables false
theorem good_of_satM {k : Kind} {l : List Str} {ms : List Ms} (hm : ∀ i (h : i < ms.length), ms[i].ok l.length) {x : Nat → Int} (h : SatK k l ms x) : goodK k l ms := by
  intro i hi
  have := (closeK_sat hm).2 h i i hi hi
  omega
theorem not_good {k : Kind} {l : List Str} {ms : List Ms} (h : badK k l ms) : ¬ goodK k l ms := by
  intro hg
  obtain ⟨kk, hkk, i, hi, hneg⟩ := h
  have := closeM_diag (kindM k l ms) hg kk hkk i hi
  omega
def lefL2 (l : List Str) (ms : List Ms) : List Str := listS (lefS l ms) l.length
theorem lefL2_len (l : List Str) (ms : List Ms) : (lefL2 l ms).length = l.length := listS_length _ _
theorem lefL2_at {l : List Str} {ms : List Ms} {j : Nat} (hj : j < l.length) : strAt (lefL2 l ms) j = lefS l ms j := listS_get _ hj
theorem lef_eq {l : List Str} {ms : List Ms} {j : Nat} (hj : j < l.length) : lefS l ms j = putF (putL (strAt l j) (-closeK kLong l ms (j + 1) j) (closeK kLong l ms j (j + 1))) (-closeK kFall l ms (j + 1) j) (closeK kFall l ms j (j + 1)) := by
  simp only [lefS, lefL, if_pos hj]
/-- A kind of which what is left is known. -/
def KindLeft (k : Kind) : Prop := ∀ (l : List Str) (ms : List Ms) (j : Nat), j < l.length → kLo k (lefL2 l ms) j = -closeK k l ms (j + 1) j ∧ kHi k (lefL2 l ms) j = closeK k l ms j (j + 1)
theorem left_long : KindLeft kLong := fun l ms j hj => by
  simp only [kLo, kHi, lefL2_at hj, lef_eq hj]; exact ⟨rfl, rfl⟩
theorem left_fall : KindLeft kFall := fun l ms j hj => by
  simp only [kLo, kHi, lefL2_at hj, lef_eq hj]; exact ⟨rfl, rfl⟩
theorem sat_left {k : Kind} (hkl : KindLeft k) {l : List Str} {ms all : List Ms} (hm : ∀ i (h : i < ms.length), ms[i].ok l.length) (hg : goodK k l ms) (hsub : ∀ x, SatK k l all x → SatK k l ms x) (x : Nat → Int) : SatK k (lefL2 l ms) all x ↔ SatK k l all x := by
  constructor
  · rintro ⟨h1, h2⟩
    refine ⟨fun j hj => ?_, h2⟩
    have a := h1 j (by rw [lefL2_len]; exact hj)
    have b := hkl l ms j hj
    have c := closeK_in hm hg hj
    omega
  · intro h
    refine ⟨fun j hj => ?_, h.2⟩
    rw [lefL2_len] at hj
    have b := hkl l ms j hj
    have hs := (closeK_sat hm).2 (hsub x h)
    have c1 := hs j (j + 1) (by omega) (by omega)
    have c2 := hs (j + 1) j (by omega) (by omega)
    omega
theorem closeK_mono {k : Kind} (hk : k.OK) {l l' : List Str} {ms ms' : List Ms} (hv : validL l) (hl : l'.length = l.length) (hm : ∀ i (h : i < ms.length), ms[i].ok l.length) (hm' : ∀ i (h : i < ms'.length), ms'[i].ok l'.length) (hg : goodK k l ms) (h : ∀ x, SatK k l ms x → SatK k l' ms' x) {i j : Nat} (hi : i ≤ l.length) (hj : j ≤ l.length) :
    closeK k l ms i j ≤ closeK k l' ms' i j := by
  have h1 := (closeK_sat hm').2 (h _ (row_sat hm hg hi)) i j (by omega) (by omega)
  have h2 := closeK_diag hk hv hm hg hi
  omega
theorem left_again {l : List Str} (hv : validL l) {ms all : List Ms} (hm : ∀ i (h : i < ms.length), ms[i].ok l.length) (ha : ∀ i (h : i < all.length), all[i].ok l.length) (hL : goodK kLong l ms) (hF : goodK kFall l ms) (hsub : ∀ k x, SatK k l all x → SatK k l ms x) :
    (goodK kLong (lefL2 l ms) all ↔ goodK kLong l all) ∧ (goodK kFall (lefL2 l ms) all ↔ goodK kFall l all) ∧ (goodK kLong l all → goodK kFall l all → ∀ j, j < l.length → lefS (lefL2 l ms) all j = lefS l all j) := by
  have hl := lefL2_len l ms
  have hv2 : validL (lefL2 l ms) := lefS_valid hv hm hL hF
  have ha2 : ∀ i (h : i < all.length), all[i].ok (lefL2 l ms).length := by rw [hl]; exact ha
  have sL := sat_left left_long hm hL (hsub kLong)
  have sF := sat_left left_fall hm hF (hsub kFall)
  have gL : goodK kLong (lefL2 l ms) all ↔ goodK kLong l all := ⟨fun h => good_of_satM ha ((sL _).1 (row_sat ha2 h (Nat.zero_le _))), fun h => good_of_satM ha2 ((sL _).2 (row_sat ha h (Nat.zero_le _)))⟩
  have gF : goodK kFall (lefL2 l ms) all ↔ goodK kFall l all := ⟨fun h => good_of_satM ha ((sF _).1 (row_sat ha2 h (Nat.zero_le _))), fun h => good_of_satM ha2 ((sF _).2 (row_sat ha h (Nat.zero_le _)))⟩
  refine ⟨gL, gF, fun h1 h2 j hj => ?_⟩
  have eL : ∀ a b, a ≤ l.length → b ≤ l.length → closeK kLong (lefL2 l ms) all a b = closeK kLong l all a b := fun a b hA hB => by
    have x1 := closeK_mono kLong_ok hv hl ha ha2 h1 (fun x => (sL x).2) hA hB
    have x2 := closeK_mono kLong_ok hv2 hl.symm ha2 ha (gL.2 h1) (fun x => (sL x).1) (i := a) (j := b) (by omega) (by omega)
    omega
  have eF : ∀ a b, a ≤ l.length → b ≤ l.length → closeK kFall (lefL2 l ms) all a b = closeK kFall l all a b := fun a b hA hB => by
    have x1 := closeK_mono kFall_ok hv hl ha ha2 h2 (fun x => (sF x).2) hA hB
    have x2 := closeK_mono kFall_ok hv2 hl.symm ha2 ha (gF.2 h2) (fun x => (sF x).1) (i := a) (j := b) (by omega) (by omega)
    omega
  rw [lef_eq (by omega), lef_eq hj, eL _ _ (by omega) (by omega), eL _ _ (by omega) (by omega), eF _ _ (by omega) (by omega), eF _ _ (by omega) (by omega), lefL2_at hj, lef_eq hj]
  rfl
theorem c_NarrowD (H : Heap) (l : List Str) (id off : Nat) (ex : Bool) (ms : List Ms) (mv : AV) (hs : rd H id off (l.length * 9) = some (l.flatMap Str.av)) (hv : validL l) (hm : SlM H mv ms) (hn : (ms.length : Int) ≤ 9223372036854775807) (hok : okMs l.length ms) :
    ACalls Try.prog F.track_Narrow [.agg [.slice id off l.length 9 ex], mv] H (fun v h' =>
      ((goodK kLong l ms ∧ goodK kFall l ms) ∧ v = .tuple [.agg [.slice H.length 0 l.length 9 false], .int .i64 0] ∧ h' = H ++ [.cells (avR (fun j => (lefS l ms j).av) l.length) true]) ∨
      (¬ (goodK kLong l ms ∧ goodK kFall l ms) ∧ v = .tuple [.agg [.nilslice], .int .i64 8] ∧ h' = H)) :=
  (c_Narrow H l id off ex ms mv hs hv hm hn hok).mono fun _ _ h => by
    rcases h with ⟨h1, h2, h3, h4⟩ | ⟨h1, h2, h3 | h3⟩
    · exact .inl ⟨⟨h2, h3⟩, h1, h4⟩
    · exact .inr ⟨fun h => not_good h3 h.1, h1, h2⟩
    · exact .inr ⟨fun h => not_good h3 h.2, h1, h2⟩
theorem c_NarrowA (H : Heap) (l : List Str) (id : Nat) (own ex : Bool) (ms all : List Ms) (mv : AV) (hh : H[id]? = some (.cells (avR (fun j => (lefS l ms j).av) l.length) own)) (hv : validL l) (hm : SlM H mv all) (hn : (all.length : Int) ≤ 9223372036854775807) (hok : okMs l.length ms) (hoka : okMs l.length all)
    (hL : goodK kLong l ms) (hF : goodK kFall l ms) (hsub : ∀ k x, SatK k l all x → SatK k l ms x) :
    ACalls Try.prog F.track_Narrow [.agg [.slice id 0 l.length 9 ex], mv] H (fun v h' =>
      ((goodK kLong l all ∧ goodK kFall l all) ∧ v = .tuple [.agg [.slice H.length 0 l.length 9 false], .int .i64 0] ∧ h' = H ++ [.cells (avR (fun j => (lefS l all j).av) l.length) true]) ∨
      (¬ (goodK kLong l all ∧ goodK kFall l all) ∧ v = .tuple [.agg [.nilslice], .int .i64 8] ∧ h' = H)) := by
  have hl := lefL2_len l ms
  have hr : rd H id 0 ((lefL2 l ms).length * 9) = some ((lefL2 l ms).flatMap Str.av) := by
    rw [hl, lefL2, listS_av]; exact rd_full hh (lenS _ _)
  obtain ⟨a1, a2, a3⟩ := left_again hv hok.2 hoka.2 hL hF hsub
  have := c_NarrowD H (lefL2 l ms) id 0 ex all mv hr (lefS_valid hv hok.2 hL hF) hm hn (by rw [hl]; exact hoka)
  rw [hl] at this
  refine this.mono fun _ _ h => ?_
  rw [a1, a2] at h
  rcases h with ⟨h1, h2, h3⟩ | h
  · refine .inl ⟨h1, h2, ?_⟩
    rw [h3]
    congr 3
    exact avR_congr fun j hj => by rw [a3 h1.1 h1.2 j hj]
  · exact .inr h
theorem c_SameT (H : Heap) (S : Nat → Str) (n ida idb : Nat) (owa owb exa exb : Bool) (ha : H[ida]? = some (.cells (avR (fun j => (S j).av) n) owa)) (hb : H[idb]? = some (.cells (avR (fun j => (S j).av) n) owb)) (hn : n ≤ 1000) :
    ACalls Try.prog F.ref01_Same [.agg [.slice ida 0 n 9 exa], .agg [.slice idb 0 n 9 exb]] H (fun v h' => v = .bool true ∧ h' = H) := by
  refine acalls_of ok_ref01_Same rfl fun hcl => ?_
  unfold ac_ref01_Same
  simp only [argsT, Nat.zero_add, Nat.reduceAdd]
  have hia := (List.getElem?_eq_some_iff.1 ha).1
  have hib := (List.getElem?_eq_some_iff.1 hb).1
  repeat (first
   |(with_reducible first|apply X1|apply X2|apply X3|apply X4|apply X5|apply X6|apply X7|apply X8|apply X9|apply Y1|apply Y2|apply Y3|apply Y4|apply Y5|apply Y6|apply Y7|apply Y8|apply Y9)
   |((with_reducible apply q_block_other);decide)
   |((with_reducible first|apply e_end|apply d_end);(simp;exact Red.rfl))
   |((first|((with_reducible apply O1);rfl)|((with_reducible apply O2);rfl)|((with_reducible apply P1);rfl)|((with_reducible apply P2);rfl)|((with_reducible apply P3);rfl)|((with_reducible apply P4);rfl)|((with_reducible apply P5);rfl));(simp (disch:=omega);exact Red.rfl);exact Red.rfl;(focus (first|(simp;done)|omega|(simp;omega))))
   |((with_reducible first|apply Z7|apply Z8|apply Z9);(simp (disch:=omega);exact Red.rfl))
   |((with_reducible first|apply Z1|apply Z2|apply Z3|apply Z4|apply Z5|apply Z6);(simp (disch:=omega);exact Red.rfl))
   |((with_reducible first|apply W1|apply W2|apply W3);(simp (disch:=omega);exact Red.rfl))
   |((with_reducible apply P6);rfl;(simp (disch:=omega);exact Red.rfl);exact Red.rfl;(focus (first|(simp [pr];done)|(simp [pr];omega))))
   |((with_reducible apply P7);rfl;(simp (disch:=omega);exact Red.rfl);exact Red.rfl;(focus (simp [repast, pr, AOp.sem];done))))
  refine e_loop (ι := { i : Nat // i ≤ n })
    (fun i => [(2, .ptr H.length 0), (3, .ptr (H.length + 1) 0), (5, .int .i64 i.1)])
    (fun _ => H ++ [.cells [.slice ida 0 n 9 exa] true, .cells [.slice idb 0 n 9 exb] true]) (fun i => n - i.1) ⟨0, by omega⟩ ?_ ?_
  · exact .inr <| le_same (by simp; omega) (by simp [Red])
  rintro ⟨i, hi⟩
  dsimp only
  by_cases hlt : i < n
  · have hlt2 : (i : Int) < n := by omega
    have ra := (plain_fun S).rd ha hlt
    have rb := (plain_fun S).rd hb hlt
    generalize S i = s at ra rb
    obtain ⟨a1, a2, a3, a4, a5, a6, a7, a8, a9⟩ := s
    simp only [Str.av] at ra rb
    repeat (first
     |(with_reducible first|apply X1|apply X2|apply X3|apply X4|apply X5|apply X6|apply X7|apply X8|apply X9|apply Y1|apply Y2|apply Y3|apply Y4|apply Y5|apply Y6|apply Y7|apply Y8|apply Y9)
     |((with_reducible apply q_block_other);decide)
     |((with_reducible first|apply e_end|apply d_end);(simp;exact Red.rfl))
     |((first|((with_reducible apply O1);rfl)|((with_reducible apply O2);rfl)|((with_reducible apply P1);rfl)|((with_reducible apply P2);rfl)|((with_reducible apply P3);rfl)|((with_reducible apply P4);rfl)|((with_reducible apply P5);rfl));(simp (disch:=omega) [hlt, hlt2, rd_old _ hia, rd_old _ hib, ra, rb];exact Red.rfl);exact Red.rfl;(focus (first|(simp;done)|omega|(simp;omega))))
     |((with_reducible first|apply Z7|apply Z8|apply Z9);(simp (disch:=omega) [hlt, hlt2, rd_old _ hia, rd_old _ hib, ra, rb];exact Red.rfl))
     |((with_reducible first|apply Z1|apply Z2|apply Z3|apply Z4|apply Z5|apply Z6);(simp (disch:=omega) [hlt, hlt2, rd_old _ hia, rd_old _ hib, ra, rb];exact Red.rfl))
     |((with_reducible first|apply W1|apply W2|apply W3);(simp (disch:=omega) [hlt, hlt2, rd_old _ hia, rd_old _ hib, ra, rb];exact Red.rfl))
     |((with_reducible apply P6);rfl;(simp (disch:=omega) [hlt, hlt2, rd_old _ hia, rd_old _ hib, ra, rb];exact Red.rfl);exact Red.rfl;(focus (first|(simp [pr];done)|(simp [pr];omega))))
     |((with_reducible apply P7);rfl;(simp (disch:=omega) [hlt, hlt2, rd_old _ hia, rd_old _ hib, ra, rb];exact Red.rfl);exact Red.rfl;(focus (simp [repast, pr, AOp.sem];done))))
    refine q_again ⟨i + 1, by omega⟩ (by dsimp only; omega) (.inr ?_)
    exact le_same (by simp; omega) (by simp [Red])
  · have hlt2 : ¬ (i : Int) < n := by omega
    repeat (first
     |(with_reducible first|apply X1|apply X2|apply X3|apply X4|apply X5|apply X6|apply X7|apply X8|apply X9|apply Y1|apply Y2|apply Y3|apply Y4|apply Y5|apply Y6|apply Y7|apply Y8|apply Y9)
     |((with_reducible apply q_block_other);decide)
     |((with_reducible first|apply e_end|apply d_end);(simp;exact Red.rfl))
     |((first|((with_reducible apply O1);rfl)|((with_reducible apply O2);rfl)|((with_reducible apply P1);rfl)|((with_reducible apply P2);rfl)|((with_reducible apply P3);rfl)|((with_reducible apply P4);rfl)|((with_reducible apply P5);rfl));(simp (disch:=omega) [hlt2];exact Red.rfl);exact Red.rfl;(focus (first|(simp;done)|omega|(simp;omega))))
     |((with_reducible first|apply Z7|apply Z8|apply Z9);(simp (disch:=omega) [hlt2];exact Red.rfl))
     |((with_reducible first|apply Z1|apply Z2|apply Z3|apply Z4|apply Z5|apply Z6);(simp (disch:=omega) [hlt2];exact Red.rfl))
     |((with_reducible first|apply W1|apply W2|apply W3);(simp (disch:=omega) [hlt2];exact Red.rfl))
     |((with_reducible apply P6);rfl;(simp (disch:=omega) [hlt2];exact Red.rfl);exact Red.rfl;(focus (first|(simp [pr];done)|(simp [pr];omega))))
     |((with_reducible apply P7);rfl;(simp (disch:=omega) [hlt2];exact Red.rfl);exact Red.rfl;(focus (simp [repast, pr, AOp.sem];done))))
    refine q_drop (.inr rfl) (by simp; exact Red.rfl) (by simp) ⟨rfl, rfl⟩
theorem c_SameN (H : Heap) : ACalls Try.prog F.ref01_Same [.agg [.nilslice], .agg [.nilslice]] H (fun v h' => v = .bool true ∧ h' = H) := by
  refine acalls_of ok_ref01_Same rfl fun hcl => ?_
  unfold ac_ref01_Same
  simp only [argsT, Nat.zero_add, Nat.reduceAdd]
  repeat (first
   |(with_reducible first|apply X1|apply X2|apply X3|apply X4|apply X5|apply X6|apply X7|apply X8|apply X9|apply Y1|apply Y2|apply Y3|apply Y4|apply Y5|apply Y6|apply Y7|apply Y8|apply Y9)
   |((with_reducible apply q_block_other);decide)
   |((with_reducible first|apply e_end|apply d_end);(simp;exact Red.rfl))
   |((first|((with_reducible apply O1);rfl)|((with_reducible apply O2);rfl)|((with_reducible apply P1);rfl)|((with_reducible apply P2);rfl)|((with_reducible apply P3);rfl)|((with_reducible apply P4);rfl)|((with_reducible apply P5);rfl));(simp (disch:=omega);exact Red.rfl);exact Red.rfl;(focus (first|(simp;done)|omega|(simp;omega))))
   |((with_reducible first|apply Z7|apply Z8|apply Z9);(simp (disch:=omega);exact Red.rfl))
   |((with_reducible first|apply Z1|apply Z2|apply Z3|apply Z4|apply Z5|apply Z6);(simp (disch:=omega);exact Red.rfl))
   |((with_reducible first|apply W1|apply W2|apply W3);(simp (disch:=omega);exact Red.rfl))
   |((with_reducible apply P6);rfl;(simp (disch:=omega);exact Red.rfl);exact Red.rfl;(focus (first|(simp [pr];done)|(simp [pr];omega))))
   |((with_reducible apply P7);rfl;(simp (disch:=omega);exact Red.rfl);exact Red.rfl;(focus (simp [repast, pr, AOp.sem];done))))
  refine e_loop (ι := Unit)
    (fun i => [(2, .ptr H.length 0), (3, .ptr (H.length + 1) 0), (5, .int .i64 0)])
    (fun _ => H ++ [.cells [.nilslice] true, .cells [.nilslice] true]) (fun i => 0) () ?_ ?_
  · exact .inr <| le_same (by simp) (by simp [Red])
  rintro ⟨⟩
  repeat (first
   |(with_reducible first|apply X1|apply X2|apply X3|apply X4|apply X5|apply X6|apply X7|apply X8|apply X9|apply Y1|apply Y2|apply Y3|apply Y4|apply Y5|apply Y6|apply Y7|apply Y8|apply Y9)
   |((with_reducible apply q_block_other);decide)
   |((with_reducible first|apply e_end|apply d_end);(simp;exact Red.rfl))
   |((first|((with_reducible apply O1);rfl)|((with_reducible apply O2);rfl)|((with_reducible apply P1);rfl)|((with_reducible apply P2);rfl)|((with_reducible apply P3);rfl)|((with_reducible apply P4);rfl)|((with_reducible apply P5);rfl));(simp (disch:=omega);exact Red.rfl);exact Red.rfl;(focus (first|(simp;done)|omega|(simp;omega))))
   |((with_reducible first|apply Z7|apply Z8|apply Z9);(simp (disch:=omega);exact Red.rfl))
   |((with_reducible first|apply Z1|apply Z2|apply Z3|apply Z4|apply Z5|apply Z6);(simp (disch:=omega);exact Red.rfl))
   |((with_reducible first|apply W1|apply W2|apply W3);(simp (disch:=omega);exact Red.rfl))
   |((with_reducible apply P6);rfl;(simp (disch:=omega);exact Red.rfl);exact Red.rfl;(focus (first|(simp [pr];done)|(simp [pr];omega))))
   |((with_reducible apply P7);rfl;(simp (disch:=omega);exact Red.rfl);exact Red.rfl;(focus (simp [repast, pr, AOp.sem];done))))
  refine q_drop (.inr rfl) (by simp; exact Red.rfl) (by simp) ⟨rfl, rfl⟩
def nrw (s o : Str) : Prop := o.lLo ≤ s.lLo ∧ s.lHi ≤ o.lHi ∧ o.fLo ≤ s.fLo ∧ s.fHi ≤ o.fHi
theorem c_narrower (H : Heap) (S : Nat → Str) (l : List Str) (n ida idb offb : Nat) (owa exa exb : Bool) (ha : H[ida]? = some (.cells (avR (fun j => (S j).av) n) owa)) (hb : rd H idb offb (l.length * 9) = some (l.flatMap Str.av)) (hl : l.length = n) (hn : n ≤ 1000) (hw : ∀ j, j < n → nrw (S j) (strAt l j)) :
    ACalls Try.prog F.law01_narrower [.agg [.slice ida 0 n 9 exa], .agg [.slice idb offb n 9 exb]] H (fun v h' => v = .bool true ∧ h' = H) := by
  refine acalls_of ok_law01_narrower rfl fun hcl => ?_
  unfold ac_law01_narrower
  simp only [argsT, Nat.zero_add, Nat.reduceAdd]
  have hia := (List.getElem?_eq_some_iff.1 ha).1
  have hib := rd_lt hb
  repeat (first
   |(with_reducible first|apply X1|apply X2|apply X3|apply X4|apply X5|apply X6|apply X7|apply X8|apply X9|apply Y1|apply Y2|apply Y3|apply Y4|apply Y5|apply Y6|apply Y7|apply Y8|apply Y9)
   |((with_reducible apply q_block_other);decide)
   |((with_reducible first|apply e_end|apply d_end);(simp;exact Red.rfl))
   |((first|((with_reducible apply O1);rfl)|((with_reducible apply O2);rfl)|((with_reducible apply P1);rfl)|((with_reducible apply P2);rfl)|((with_reducible apply P3);rfl)|((with_reducible apply P4);rfl)|((with_reducible apply P5);rfl));(simp (disch:=omega);exact Red.rfl);exact Red.rfl;(focus (first|(simp;done)|omega|(simp;omega))))
   |((with_reducible first|apply Z7|apply Z8|apply Z9);(simp (disch:=omega);exact Red.rfl))
   |((with_reducible first|apply Z1|apply Z2|apply Z3|apply Z4|apply Z5|apply Z6);(simp (disch:=omega);exact Red.rfl))
   |((with_reducible first|apply W1|apply W2|apply W3);(simp (disch:=omega);exact Red.rfl))
   |((with_reducible apply P6);rfl;(simp (disch:=omega);exact Red.rfl);exact Red.rfl;(focus (first|(simp [pr];done)|(simp [pr];omega))))
   |((with_reducible apply P7);rfl;(simp (disch:=omega);exact Red.rfl);exact Red.rfl;(focus (simp [repast, pr, AOp.sem];done))))
  refine e_loop (ι := { i : Nat // i ≤ n })
    (fun i => [(3, .ptr (H.length + 1) 0), (16, .slice ida 0 n 9 exa), (17, .int .i64 n), (18, .int .i64 i.1)])
    (fun _ => H ++ [.cells [.slice ida 0 n 9 exa] true, .cells [.slice idb offb n 9 exb] true]) (fun i => n - i.1) ⟨0, by omega⟩ ?_ ?_
  · exact .inr <| le_same (by simp; omega) (by simp [Red]; omega)
  rintro ⟨i, hi⟩
  dsimp only
  by_cases hlt : i < n
  · have hlt2 : (i : Int) < n := by omega
    have ra := (plain_fun S).rd ha hlt
    have rb := rd_row Str.av_length hb (show i < l.length by omega)
    have hwi := hw i hlt
    rw [strAt_eq (by omega)] at hwi
    generalize l[i] = o at rb hwi
    generalize S i = s at ra hwi
    obtain ⟨a1, a2, a3, a4, a5, a6, a7, a8, a9⟩ := s
    obtain ⟨b1, b2, b3, b4, b5, b6, b7, b8, b9⟩ := o
    simp only [Str.av] at ra rb
    simp only [nrw] at hwi
    have n1 : ¬ a2 < b2 := by omega
    have n2 : ¬ b3 < a3 := by omega
    have n3 : ¬ a4 < b4 := by omega
    have n4 : ¬ b5 < a5 := by omega
    repeat (first
     |(with_reducible first|apply X1|apply X2|apply X3|apply X4|apply X5|apply X6|apply X7|apply X8|apply X9|apply Y1|apply Y2|apply Y3|apply Y4|apply Y5|apply Y6|apply Y7|apply Y8|apply Y9)
     |((with_reducible apply q_block_other);decide)
     |((with_reducible first|apply e_end|apply d_end);(simp;exact Red.rfl))
     |((first|((with_reducible apply O1);rfl)|((with_reducible apply O2);rfl)|((with_reducible apply P1);rfl)|((with_reducible apply P2);rfl)|((with_reducible apply P3);rfl)|((with_reducible apply P4);rfl)|((with_reducible apply P5);rfl));(simp (disch:=omega) [hlt, hlt2, rd_old _ hia, rd_old _ hib, ra, rb, n1, n2, n3, n4];exact Red.rfl);exact Red.rfl;(focus (first|(simp;done)|omega|(simp;omega))))
     |((with_reducible first|apply Z7|apply Z8|apply Z9);(simp (disch:=omega) [hlt, hlt2, rd_old _ hia, rd_old _ hib, ra, rb, n1, n2, n3, n4];exact Red.rfl))
     |((with_reducible first|apply Z1|apply Z2|apply Z3|apply Z4|apply Z5|apply Z6);(simp (disch:=omega) [hlt, hlt2, rd_old _ hia, rd_old _ hib, ra, rb, n1, n2, n3, n4];exact Red.rfl))
     |((with_reducible first|apply W1|apply W2|apply W3);(simp (disch:=omega) [hlt, hlt2, rd_old _ hia, rd_old _ hib, ra, rb, n1, n2, n3, n4];exact Red.rfl))
     |((with_reducible apply P6);rfl;(simp (disch:=omega) [hlt, hlt2, rd_old _ hia, rd_old _ hib, ra, rb, n1, n2, n3, n4];exact Red.rfl);exact Red.rfl;(focus (first|(simp [pr];done)|(simp [pr];omega))))
     |((with_reducible apply P7);rfl;(simp (disch:=omega) [hlt, hlt2, rd_old _ hia, rd_old _ hib, ra, rb, n1, n2, n3, n4];exact Red.rfl);exact Red.rfl;(focus (simp [repast, pr, AOp.sem];done))))
    refine q_again ⟨i + 1, by omega⟩ (by dsimp only; omega) (.inr ?_)
    exact le_take (G := [_, _]) (by simp; omega) (by simp [Red]; omega)
  · have hlt2 : ¬ (i : Int) < n := by omega
    repeat (first
     |(with_reducible first|apply X1|apply X2|apply X3|apply X4|apply X5|apply X6|apply X7|apply X8|apply X9|apply Y1|apply Y2|apply Y3|apply Y4|apply Y5|apply Y6|apply Y7|apply Y8|apply Y9)
     |((with_reducible apply q_block_other);decide)
     |((with_reducible first|apply e_end|apply d_end);(simp;exact Red.rfl))
     |((first|((with_reducible apply O1);rfl)|((with_reducible apply O2);rfl)|((with_reducible apply P1);rfl)|((with_reducible apply P2);rfl)|((with_reducible apply P3);rfl)|((with_reducible apply P4);rfl)|((with_reducible apply P5);rfl));(simp (disch:=omega) [hlt2];exact Red.rfl);exact Red.rfl;(focus (first|(simp;done)|omega|(simp;omega))))
     |((with_reducible first|apply Z7|apply Z8|apply Z9);(simp (disch:=omega) [hlt2];exact Red.rfl))
     |((with_reducible first|apply Z1|apply Z2|apply Z3|apply Z4|apply Z5|apply Z6);(simp (disch:=omega) [hlt2];exact Red.rfl))
     |((with_reducible first|apply W1|apply W2|apply W3);(simp (disch:=omega) [hlt2];exact Red.rfl))
     |((with_reducible apply P6);rfl;(simp (disch:=omega) [hlt2];exact Red.rfl);exact Red.rfl;(focus (first|(simp [pr];done)|(simp [pr];omega))))
     |((with_reducible apply P7);rfl;(simp (disch:=omega) [hlt2];exact Red.rfl);exact Red.rfl;(focus (simp [repast, pr, AOp.sem];done))))
    refine q_drop (.inr rfl) (by simp; exact Red.rfl) (by simp) ⟨rfl, rfl⟩
theorem rowsMs : ∀ (h : Heap) (rows : List (List AV)), (∀ r ∈ rows, lookL h [.int .u8, .int .i64, .int .i64, .int .i64, .int .i64] r) →
    ∃ ms : List Ms, rows.flatten = ms.flatMap Ms.av ∧ ms.length = rows.length ∧ (ms.flatMap Ms.av).length = ms.length * 5 ∧ ∀ i (h : i < ms.length), 0 ≤ ms[i].k ∧ ms[i].k ≤ 255
  | _, [], _ => ⟨[], rfl, rfl, rfl, by intro i h; simp at h⟩
  | h, r :: rs, hr => by
    obtain ⟨l, h1, h2, h4, h5⟩ := rowsMs h rs (fun r' h' => hr r' (List.mem_cons_of_mem _ h'))
    have h3 := hr r (List.mem_cons_self ..)
    simp only [lookL, QK.look] at h3
    obtain ⟨_, _, rfl, ⟨a1, rfl, b1, b2⟩, _, _, rfl, ⟨a2, rfl, _⟩, _, _, rfl, ⟨a3, rfl, _⟩, _, _, rfl, ⟨a4, rfl, _⟩, _, _, rfl, ⟨a5, rfl, _⟩, rfl⟩ := h3
    refine ⟨⟨a1, a2, a3, a4, a5⟩ :: l, by simp [h1, Ms.av], by simp [h2], by rw [List.flatMap_cons, List.length_append, h4, Ms.av_length, List.length_cons]; omega, fun i hi => ?_⟩
    cases i with
    | zero => exact ⟨b1, b2⟩
    | succ i => exact h5 i (by simpa using hi)
end Go.Proofs
