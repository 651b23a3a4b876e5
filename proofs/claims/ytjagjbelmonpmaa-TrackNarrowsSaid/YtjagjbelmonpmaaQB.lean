/- Several texts as one. -/
import Derived.Test.YtjagjbelmonpmaaQA
import Derived.Test.YtjagjbelmonpmaaNB
import Derived.Test.YtjagjbelmonpmaaEX
import Derived.Test.YtjagjbelmonpmaaDD
/- What measures leave, by program and reference; errors. -/
namespace Go.Proofs
open Go.Abs
attribute [local simp] AOp.den AOpd.ev lk cellsOf rd_new rd_new0 rd_zero rd_succ wr_new wr_new0 wr_zero wr_succ splice fillA binA scal sliceCells List.length_append argsT AV.sc scL AObj.sc resV getAll AR.get AOp.slots opdSlots opdsSlots partSlots eqAt at_new0 at_new set_new0 set_new wrap64
set_option linter.unusedSimpArgs false
set_option linter.unusedVariables false
theorem c_rnarrowG (H : Heap) (l : List Str) (id off : Nat) (ex : Bool) (ms : List Ms) (mv : AV) (hs : rd H id off (l.length * 9) = some (l.flatMap Str.av)) (hv : validL l) (hm : SlM H mv ms) (hok : okMs l.length ms) (hL : goodK kLong l ms) (hF : goodK kFall l ms) :
    ACalls Try.prog F.ref01_narrow [.agg [.slice id off l.length 9 ex], mv] H (fun v h' => v = .tuple [.agg [.slice H.length 0 l.length 9 false], .bool true] ∧ h' = H ++ [.cells (avR (fun j => (lefS l ms j).av) l.length) true]) :=
  (c_rnarrow H l id off ex ms mv hs hv hm hok).mono fun _ _ h => by
    rcases h with ⟨_, h2, h3⟩ | ⟨h1, _⟩
    · exact ⟨h2, h3⟩
    · exact absurd ⟨hL, hF⟩ h1
/-- What Narrow answers, and which track it leaves. -/
noncomputable def nrE (l : List Str) (ms : List Ms) : Int :=
  open Classical in if ¬ validL l then 10 else if ¬ okMs l.length ms then 11 else if ¬ (goodK kLong l ms ∧ goodK kFall l ms) then 8 else 0
noncomputable def nrN (l : List Str) (ms : List Ms) : Nat := if nrE l ms = 0 then l.length else 0
def nrR (H : Heap) (l : List Str) (ms : List Ms) (v : AV) (h' : Heap) : Prop := v = .tuple [.agg [lsV H 9 (nrN l ms)], .int .i64 (nrE l ms)] ∧ h' = H ++ lsO (nrN l ms) (avR (fun j => (lefS l ms j).av) (nrN l ms))
theorem nrE_track {l : List Str} {ms : List Ms} (h : ¬ validL l) : nrE l ms = 10 := by simp [nrE, h]
theorem nrE_ms {l : List Str} {ms : List Ms} (h : validL l) (h2 : ¬ okMs l.length ms) : nrE l ms = 11 := by simp [nrE, h, h2]
theorem nrE_bad {l : List Str} {ms : List Ms} (h : validL l) (h2 : okMs l.length ms) (h3 : ¬ (goodK kLong l ms ∧ goodK kFall l ms)) : nrE l ms = 8 := by
  rw [nrE, if_neg (by simpa using h), if_neg (by simpa using h2), if_pos h3]
theorem nrE_ok {l : List Str} {ms : List Ms} (h : validL l) (h2 : okMs l.length ms) (h3 : goodK kLong l ms ∧ goodK kFall l ms) : nrE l ms = 0 := by
  rw [nrE, if_neg (by simpa using h), if_neg (by simpa using h2), if_neg (by simpa using h3)]
theorem nrR_err {l : List Str} {ms : List Ms} {e : Int} (he : nrE l ms = e) (h0 : e ≠ 0) (H : Heap) : (fun v h' => v = .tuple [.agg [.nilslice], .int .i64 e] ∧ h' = H) = nrR H l ms := by
  funext v h'
  have hn : nrN l ms = 0 := by rw [nrN, if_neg (by rw [he]; exact h0)]
  simp [nrR, hn, he, lsV, lsO]
theorem nrR_ok {l : List Str} {ms : List Ms} (hv : validL l) (he : nrE l ms = 0) (H : Heap) : (fun v h' => v = .tuple [.agg [.slice H.length 0 l.length 9 false], .int .i64 0] ∧ h' = H ++ [.cells (avR (fun j => (lefS l ms j).av) l.length) true]) = nrR H l ms := by
  funext v h'
  have hn : nrN l ms = l.length := by rw [nrN, if_pos he]
  have h1 : ¬ l.length = 0 := by have := hv.1; omega
  simp only [nrR, hn, he, lsV, lsO, if_neg h1]
theorem c_NarrowAll (H : Heap) (l : List Str) (id off : Nat) (ex : Bool) (ms : List Ms) (mid moff : Nat) (mex : Bool) (hs : rd H id off (l.length * 9) = some (l.flatMap Str.av)) (hl : l.length ≤ 20) (hm : rd H mid moff (ms.length * 5) = some (ms.flatMap Ms.av)) (hn : (ms.length : Int) ≤ 9223372036854775807) :
    ACalls Try.prog F.track_Narrow [.agg [.slice id off l.length 9 ex], .slice mid moff ms.length 5 mex] H (nrR H l ms) := by
  have hm2 : SlM H (.slice mid moff ms.length 5 mex) ms := .inr ⟨mid, moff, mex, rfl, hm⟩
  by_cases hv : validL l
  · by_cases hok : okMs l.length ms
    · by_cases hg : goodK kLong l ms ∧ goodK kFall l ms
      · rw [← nrR_ok hv (nrE_ok hv hok hg) H]
        exact c_NarrowX H l id off ex ms _ hs hv hm2 hok hg.1 hg.2
      · rw [← nrR_err (nrE_bad hv hok hg) (by decide) H]
        refine (c_NarrowD H l id off ex ms _ hs hv hm2 hn hok).mono fun _ _ h => ?_
        rcases h with ⟨h1, _⟩ | ⟨_, h2, h3⟩
        · exact absurd h1 hg
        · exact ⟨h2, h3⟩
    · rw [← nrR_err (nrE_ms hv hok) (by decide) H]
      refine acalls_of ok_track_Narrow rfl fun hcl => ?_
      unfold ac_track_Narrow
      simp only [argsT, Nat.zero_add, Nat.reduceAdd]
      have hid := rd_lt hs
      repeat (first|(with_reducible first|apply X1|apply X2|apply X8)|((with_reducible apply e_end);(simp;exact Red.rfl))|((with_reducible apply O1);rfl;(simp (disch:=omega);exact Red.rfl);exact Red.rfl;(focus (first|(simp;done)|omega|(simp;omega)))))
      (with_reducible apply e_call); (simp; exact Red.rfl); exact c_Check _ l id off ex (by rw [rd_old _ hid]; exact hs) (by omega)
      rintro _ _ ⟨rfl, e, rfl, he⟩
      obtain rfl : e = 0 := by
        rcases he with h | h
        · exact h.2
        · exact absurd hv h.1
      repeat (first|(with_reducible first|apply X1|apply X2|apply X5|apply X8)|((with_reducible apply e_end);(simp;exact Red.rfl))|((with_reducible apply O1);rfl;(simp (disch:=omega);exact Red.rfl);exact Red.rfl;(focus (first|(simp;done)|omega|(simp;omega))))|((with_reducible apply W3);(simp (disch:=omega);exact Red.rfl)))
      (with_reducible apply e_call); (simp; exact Red.rfl); exact c_agreed _ l id off ex ms _ (by rw [rd_old _ hid]; exact hs) hv (hm2.app _) hn
      rintro _ _ ⟨rfl, b, rfl, hb⟩
      obtain rfl : b = false := by
        cases b with
        | false => rfl
        | true => exact absurd (hb.1 rfl) hok
      repeat (first|(with_reducible first|apply X1|apply X2|apply X3|apply X8|apply X9)|((with_reducible apply e_end);(simp;exact Red.rfl))|((first|((with_reducible apply O1);rfl)|((with_reducible apply O2);rfl));(simp (disch:=omega);exact Red.rfl);exact Red.rfl;(focus (first|(simp;done)|omega|(simp;omega))))|((with_reducible apply Z9);(simp (disch:=omega);exact Red.rfl)))
      refine q_drop (.inr rfl) (by simp; exact Red.rfl) (by simp) ⟨rfl, rfl⟩
  · rw [← nrR_err (nrE_track hv) (by decide) H]
    refine acalls_of ok_track_Narrow rfl fun hcl => ?_
    unfold ac_track_Narrow
    simp only [argsT, Nat.zero_add, Nat.reduceAdd]
    have hid := rd_lt hs
    have hsc := fun n h => hm2.sc (n := n) h
    repeat (first|(with_reducible first|apply X1|apply X2|apply X8)|((with_reducible apply e_end);(simp;exact Red.rfl))|((with_reducible apply O1);rfl;(simp (disch:=omega);exact Red.rfl);exact Red.rfl;(focus (first|(simp;done)|omega|(simp;omega)))))
    (with_reducible apply e_call); (simp; exact Red.rfl); exact c_Check _ l id off ex (by rw [rd_old _ hid]; exact hs) (by omega)
    rintro _ _ ⟨rfl, e, rfl, he⟩
    obtain rfl : e = 10 := by
      rcases he with h | h
      · exact absurd h.1 hv
      · exact h.2
    repeat (first|(with_reducible first|apply X1|apply X2|apply X3|apply X8|apply X9)|((with_reducible apply e_end);(simp;exact Red.rfl))|((first|((with_reducible apply O1);rfl)|((with_reducible apply O2);rfl));(simp (disch:=omega);exact Red.rfl);exact Red.rfl;(focus (first|(simp;done)|omega|(simp;omega))))|((with_reducible apply Z9);(simp (disch:=omega);exact Red.rfl)))
    refine q_drop (.inr rfl) (by simp; exact Red.rfl) (by simp) ⟨rfl, rfl⟩
theorem c_rNarrowAll (H : Heap) (l : List Str) (id off : Nat) (ex : Bool) (ms : List Ms) (mid moff : Nat) (mex : Bool) (hs : rd H id off (l.length * 9) = some (l.flatMap Str.av)) (hl : l.length ≤ 20) (hm : rd H mid moff (ms.length * 5) = some (ms.flatMap Ms.av)) (hn : (ms.length : Int) ≤ 9223372036854775807) (hk : ∀ i (h : i < ms.length), 0 ≤ ms[i].k ∧ ms[i].k ≤ 255) :
    ACalls Try.prog F.ref01_Narrow [.agg [.slice id off l.length 9 ex], .slice mid moff ms.length 5 mex] H (nrR H l ms) := by
  have hm2 : SlM H (.slice mid moff ms.length 5 mex) ms := .inr ⟨mid, moff, mex, rfl, hm⟩
  have hid := rd_lt hs
  have hmid := rd_lt hm
  by_cases hv : validL l
  · by_cases hok : okMs l.length ms
    · by_cases hg : goodK kLong l ms ∧ goodK kFall l ms
      · rw [← nrR_ok hv (nrE_ok hv hok hg) H]
        refine acalls_of ok_ref01_Narrow rfl fun hcl => ?_
        unfold ac_ref01_Narrow
        simp only [argsT, Nat.zero_add, Nat.reduceAdd]
        repeat (first|(with_reducible first|apply X1|apply X2|apply X8)|((with_reducible apply e_end);(simp;exact Red.rfl))|((with_reducible apply O1);rfl;(simp (disch:=omega);exact Red.rfl);exact Red.rfl;(focus (first|(simp;done)|omega|(simp;omega)))))
        (with_reducible apply e_call); (simp; exact Red.rfl); exact c_rTrack _ l id off ex (by rw [rd_old _ hid]; exact hs) (by omega)
        rintro _ _ ⟨rfl, b, rfl, hb⟩
        obtain rfl : b = true := hb.2 hv
        repeat (first|(with_reducible first|apply X1|apply X2|apply X5|apply X8)|((with_reducible apply e_end);(simp;exact Red.rfl))|((with_reducible apply O1);rfl;(simp (disch:=omega);exact Red.rfl);exact Red.rfl;(focus (first|(simp;done)|omega|(simp;omega))))|((with_reducible apply W3);(simp (disch:=omega);exact Red.rfl)))
        (with_reducible apply e_call); (simp; exact Red.rfl); exact c_rMeasures _ l.length id off ex ms mid moff mex (by simp; omega) (by rw [rd_old _ hmid]; exact hm) hn hk
        rintro _ _ ⟨rfl, b, rfl, hb⟩
        obtain rfl : b = true := hb.2 hok
        repeat (first|(with_reducible first|apply X1|apply X2|apply X5|apply X8)|((with_reducible apply e_end);(simp;exact Red.rfl))|((with_reducible apply O1);rfl;(simp (disch:=omega);exact Red.rfl);exact Red.rfl;(focus (first|(simp;done)|omega|(simp;omega))))|((with_reducible apply W3);(simp (disch:=omega);exact Red.rfl)))
        (with_reducible apply e_call); (simp; exact Red.rfl); exact c_rnarrowG _ l id off ex ms _ (by rw [rd_old _ hid]; exact hs) hv (hm2.app _) hok hg.1 hg.2
        rintro _ _ ⟨rfl, rfl⟩
        repeat (first|(with_reducible first|apply X1|apply X2|apply X3|apply X5|apply X8)|((with_reducible apply e_end);(simp;exact Red.rfl))|((first|((with_reducible apply O1);rfl)|((with_reducible apply O2);rfl));(simp (disch:=omega);exact Red.rfl);exact Red.rfl;(focus (first|(simp;done)|omega|(simp;omega))))|((with_reducible apply W3);(simp (disch:=omega);exact Red.rfl)))
        have hp := (plain_fun (lefS l ms)).plain l.length
        exact q_post (v' := .tuple [.agg [.slice H.length 0 l.length 9 false], .int .i64 0]) (.inr rfl) (by simp; exact Red.rfl) (le_plain [2] _ (by simp) rfl (by simp; exact hp.o _) (by simp [sh, AV.ren, renL])) ⟨rfl, rfl⟩
      · rw [← nrR_err (nrE_bad hv hok hg) (by decide) H]
        refine acalls_of ok_ref01_Narrow rfl fun hcl => ?_
        unfold ac_ref01_Narrow
        simp only [argsT, Nat.zero_add, Nat.reduceAdd]
        repeat (first|(with_reducible first|apply X1|apply X2|apply X8)|((with_reducible apply e_end);(simp;exact Red.rfl))|((with_reducible apply O1);rfl;(simp (disch:=omega);exact Red.rfl);exact Red.rfl;(focus (first|(simp;done)|omega|(simp;omega)))))
        (with_reducible apply e_call); (simp; exact Red.rfl); exact c_rTrack _ l id off ex (by rw [rd_old _ hid]; exact hs) (by omega)
        rintro _ _ ⟨rfl, b, rfl, hb⟩
        obtain rfl : b = true := hb.2 hv
        repeat (first|(with_reducible first|apply X1|apply X2|apply X5|apply X8)|((with_reducible apply e_end);(simp;exact Red.rfl))|((with_reducible apply O1);rfl;(simp (disch:=omega);exact Red.rfl);exact Red.rfl;(focus (first|(simp;done)|omega|(simp;omega))))|((with_reducible apply W3);(simp (disch:=omega);exact Red.rfl)))
        (with_reducible apply e_call); (simp; exact Red.rfl); exact c_rMeasures _ l.length id off ex ms mid moff mex (by simp; omega) (by rw [rd_old _ hmid]; exact hm) hn hk
        rintro _ _ ⟨rfl, b, rfl, hb⟩
        obtain rfl : b = true := hb.2 hok
        repeat (first|(with_reducible first|apply X1|apply X2|apply X5|apply X8)|((with_reducible apply e_end);(simp;exact Red.rfl))|((with_reducible apply O1);rfl;(simp (disch:=omega);exact Red.rfl);exact Red.rfl;(focus (first|(simp;done)|omega|(simp;omega))))|((with_reducible apply W3);(simp (disch:=omega);exact Red.rfl)))
        (with_reducible apply e_call); (simp; exact Red.rfl); exact c_rnarrow _ l id off ex ms _ (by rw [rd_old _ hid]; exact hs) hv (hm2.app _) hok
        rintro _ _ (⟨h, _⟩ | ⟨_, rfl, rfl⟩)
        · exact absurd h hg
        repeat (first|(with_reducible first|apply X1|apply X2|apply X3|apply X8|apply X9)|((with_reducible apply e_end);(simp;exact Red.rfl))|((first|((with_reducible apply O1);rfl)|((with_reducible apply O2);rfl));(simp (disch:=omega);exact Red.rfl);exact Red.rfl;(focus (first|(simp;done)|omega|(simp;omega))))|((with_reducible apply Z9);(simp (disch:=omega);exact Red.rfl)))
        refine q_drop (.inr rfl) (by simp; exact Red.rfl) (by simp) ⟨rfl, rfl⟩
    · rw [← nrR_err (nrE_ms hv hok) (by decide) H]
      refine acalls_of ok_ref01_Narrow rfl fun hcl => ?_
      unfold ac_ref01_Narrow
      simp only [argsT, Nat.zero_add, Nat.reduceAdd]
      repeat (first|(with_reducible first|apply X1|apply X2|apply X8)|((with_reducible apply e_end);(simp;exact Red.rfl))|((with_reducible apply O1);rfl;(simp (disch:=omega);exact Red.rfl);exact Red.rfl;(focus (first|(simp;done)|omega|(simp;omega)))))
      (with_reducible apply e_call); (simp; exact Red.rfl); exact c_rTrack _ l id off ex (by rw [rd_old _ hid]; exact hs) (by omega)
      rintro _ _ ⟨rfl, b, rfl, hb⟩
      obtain rfl : b = true := hb.2 hv
      repeat (first|(with_reducible first|apply X1|apply X2|apply X5|apply X8)|((with_reducible apply e_end);(simp;exact Red.rfl))|((with_reducible apply O1);rfl;(simp (disch:=omega);exact Red.rfl);exact Red.rfl;(focus (first|(simp;done)|omega|(simp;omega))))|((with_reducible apply W3);(simp (disch:=omega);exact Red.rfl)))
      (with_reducible apply e_call); (simp; exact Red.rfl); exact c_rMeasures _ l.length id off ex ms mid moff mex (by simp; omega) (by rw [rd_old _ hmid]; exact hm) hn hk
      rintro _ _ ⟨rfl, b, rfl, hb⟩
      obtain rfl : b = false := by
        cases b with
        | false => rfl
        | true => exact absurd (hb.1 rfl) hok
      repeat (first|(with_reducible first|apply X1|apply X2|apply X3|apply X8|apply X9)|((with_reducible apply e_end);(simp;exact Red.rfl))|((first|((with_reducible apply O1);rfl)|((with_reducible apply O2);rfl));(simp (disch:=omega);exact Red.rfl);exact Red.rfl;(focus (first|(simp;done)|omega|(simp;omega))))|((with_reducible apply Z9);(simp (disch:=omega);exact Red.rfl)))
      refine q_drop (.inr rfl) (by simp; exact Red.rfl) (by simp) ⟨rfl, rfl⟩
  · rw [← nrR_err (nrE_track hv) (by decide) H]
    refine acalls_of ok_ref01_Narrow rfl fun hcl => ?_
    unfold ac_ref01_Narrow
    simp only [argsT, Nat.zero_add, Nat.reduceAdd]
    repeat (first|(with_reducible first|apply X1|apply X2|apply X8)|((with_reducible apply e_end);(simp;exact Red.rfl))|((with_reducible apply O1);rfl;(simp (disch:=omega);exact Red.rfl);exact Red.rfl;(focus (first|(simp;done)|omega|(simp;omega)))))
    (with_reducible apply e_call); (simp; exact Red.rfl); exact c_rTrack _ l id off ex (by rw [rd_old _ hid]; exact hs) (by omega)
    rintro _ _ ⟨rfl, b, rfl, hb⟩
    obtain rfl : b = false := by
      cases b with
      | false => rfl
      | true => exact absurd (hb.1 rfl) hv
    repeat (first|(with_reducible first|apply X1|apply X2|apply X3|apply X8|apply X9)|((with_reducible apply e_end);(simp;exact Red.rfl))|((first|((with_reducible apply O1);rfl)|((with_reducible apply O2);rfl));(simp (disch:=omega);exact Red.rfl);exact Red.rfl;(focus (first|(simp;done)|omega|(simp;omega))))|((with_reducible apply Z9);(simp (disch:=omega);exact Red.rfl)))
    refine q_drop (.inr rfl) (by simp; exact Red.rfl) (by simp) ⟨rfl, rfl⟩
end Go.Proofs
/- Which measures make no difference, by program and reference. -/
namespace Go.Proofs
open Go.Abs
attribute [local simp] AOp.den AOpd.ev lk cellsOf rd_new rd_new0 rd_zero rd_succ wr_new wr_new0 wr_zero wr_succ splice fillA binA scal sliceCells List.length_append argsT AV.sc scL AObj.sc resV getAll AR.get AOp.slots opdSlots opdsSlots partSlots eqAt at_new0 at_new set_new0 set_new wrap64
set_option linter.unusedSimpArgs false
set_option linter.unusedVariables false
theorem ms_split (ms : List Ms) (n : Nat) : ms.flatMap Ms.av = (ms.take n).flatMap Ms.av ++ (ms.drop n).flatMap Ms.av := by rw [← List.flatMap_append, List.take_append_drop]
theorem ms_take {H : Heap} {mid moff n : Nat} {ms : List Ms} (hm : rd H mid moff (ms.length * 5) = some (ms.flatMap Ms.av)) (hn : n ≤ ms.length) : rd H mid moff (n * 5) = some ((ms.take n).flatMap Ms.av) := by
  have h := rd_sub hm (j := 0) (m := n * 5) (by omega)
  have hl : ((ms.take n).flatMap Ms.av).length = n * 5 := by rw [ms_lenU, List.length_take, Nat.min_eq_left hn]
  rw [Nat.add_zero] at h
  rw [h, List.drop_zero, ms_split ms n, List.take_append_of_le_length (by omega), List.take_of_length_le (by omega)]
theorem ms_drop {H : Heap} {mid moff n : Nat} {ms : List Ms} (hm : rd H mid moff (ms.length * 5) = some (ms.flatMap Ms.av)) (hn : n ≤ ms.length) : rd H mid (moff + n * 5) ((ms.length - n) * 5) = some ((ms.drop n).flatMap Ms.av) := by
  have h := rd_sub hm (j := n * 5) (m := (ms.length - n) * 5) (by omega)
  have hl : ((ms.take n).flatMap Ms.av).length = n * 5 := by rw [ms_lenU, List.length_take, Nat.min_eq_left hn]
  have hl2 : ((ms.drop n).flatMap Ms.av).length = (ms.length - n) * 5 := by rw [ms_lenU, List.length_drop]
  rw [h, ms_split ms n]
  congr 1
  have h0 : ((ms.take n).flatMap Ms.av).drop (n * 5) = [] := List.drop_eq_nil_of_le (by omega)
  rw [List.drop_append_of_le_length (by omega), h0, List.nil_append, List.take_of_length_le (by omega)]
theorem pV_ls (H : Heap) (xs : List Nat) : pV H.length xs = lsV H 1 xs.length := by
  by_cases h : xs = []
  · subst h; rfl
  · have : ¬ xs.length = 0 := by simpa using h
    simp only [pV, lsV, if_neg h, if_neg this]
theorem pH_ls (H : Heap) (xs : List Nat) : pH H xs = H ++ lsO xs.length (avK xs) := by
  by_cases h : xs = []
  · subst h; simp [pH, lsO]
  · have : ¬ xs.length = 0 := by simpa using h
    simp only [pH, lsO, if_neg h, if_neg this]
noncomputable def usL (l : List Str) (ms : List Ms) : List Nat := if nrE l ms = 0 then selF (useB l ms) ms.length else []
def usR (H : Heap) (l : List Str) (ms : List Ms) (v : AV) (h' : Heap) : Prop := v = .tuple [lsV H 1 (usL l ms).length, .int .i64 (nrE l ms)] ∧ h' = H ++ lsO (usL l ms).length (avK (usL l ms))
theorem usR_err {l : List Str} {ms : List Ms} (h0 : nrE l ms ≠ 0) (H : Heap) : (fun v h' => v = .tuple [.nilslice, .int .i64 (nrE l ms)] ∧ h' = H) = usR H l ms := by
  funext v h'
  have hn : usL l ms = [] := by rw [usL, if_neg h0]
  simp [usR, hn, lsV, lsO]
theorem nrR_e {l : List Str} {ms : List Ms} (h0 : nrE l ms ≠ 0) {H : Heap} {v : AV} {h' : Heap} (h : nrR H l ms v h') : v = .tuple [.agg [.nilslice], .int .i64 (nrE l ms)] ∧ h' = H := by
  have hn : nrN l ms = 0 := by rw [nrN, if_neg h0]
  obtain ⟨h1, h2⟩ := h
  rw [hn] at h1 h2
  exact ⟨h1, by simpa [lsO] using h2⟩
theorem nrE_zero {l : List Str} {ms : List Ms} (h : nrE l ms = 0) : validL l ∧ okMs l.length ms ∧ goodK kLong l ms ∧ goodK kFall l ms := by
  by_cases hv : validL l
  · by_cases ho : okMs l.length ms
    · by_cases hg : goodK kLong l ms ∧ goodK kFall l ms
      · exact ⟨hv, ho, hg⟩
      · rw [nrE_bad hv ho hg] at h; cases h
    · rw [nrE_ms hv ho] at h; cases h
  · rw [nrE_track hv] at h; cases h
theorem c_UselessAll (H : Heap) (l : List Str) (id off : Nat) (ex : Bool) (ms : List Ms) (mid moff : Nat) (mex : Bool) (hs : rd H id off (l.length * 9) = some (l.flatMap Str.av)) (hl : l.length ≤ 20) (hm : rd H mid moff (ms.length * 5) = some (ms.flatMap Ms.av)) (hn : (ms.length : Int) ≤ 9223372036854775807) :
    ACalls Try.prog F.track_Useless [.agg [.slice id off l.length 9 ex], .slice mid moff ms.length 5 mex] H (usR H l ms) := by
  have hid := rd_lt hs
  have hmid := rd_lt hm
  by_cases h0 : nrE l ms = 0
  · obtain ⟨hv, hok, hL, hF⟩ := nrE_zero h0
    refine (c_Useless H l id off ex ms _ hs hv (.inr ⟨mid, moff, mex, rfl, hm⟩) hok hL hF).mono fun v h' h => ?_
    have hx : usL l ms = selF (useB l ms) ms.length := by rw [usL, if_pos h0]
    rw [usR, hx, h0, ← pV_ls, ← pH_ls]
    exact h
  · have cn := fun G => (c_NarrowAll (H ++ G) l id off ex ms mid moff mex (by rw [rd_old _ hid]; exact hs) hl (by rw [rd_old _ hmid]; exact hm) hn).mono fun v h' h => nrR_e h0 h
    rw [← usR_err h0]
    generalize nrE l ms = e at *
    refine acalls_of ok_track_Useless rfl fun hcl => ?_
    unfold ac_track_Useless
    simp only [argsT, Nat.zero_add, Nat.reduceAdd]
    repeat (first|(with_reducible first|apply X1|apply X2|apply X8)|((with_reducible apply e_end);(simp;exact Red.rfl))|((with_reducible apply O1);rfl;(simp (disch:=omega);exact Red.rfl);exact Red.rfl;(focus (first|(simp;done)|omega|(simp;omega)))))
    (with_reducible apply e_call); (simp; exact Red.rfl); exact cn _
    rintro _ _ ⟨rfl, rfl⟩
    repeat (first|(with_reducible first|apply X1|apply X2|apply X3|apply X8|apply X9)|((with_reducible apply e_end);(simp;exact Red.rfl))|((first|((with_reducible apply O1);rfl)|((with_reducible apply O2);rfl));(simp (disch:=omega) [h0];exact Red.rfl);exact Red.rfl;(focus (first|(simp;done)|omega|(simp;omega))))|((with_reducible apply Z9);(simp (disch:=omega) [h0];exact Red.rfl)))
    refine q_drop (.inr rfl) (by simp; exact Red.rfl) (by simp) ⟨rfl, rfl⟩
set_option maxHeartbeats 4000000 in
theorem c_rUselessAll (H : Heap) (l : List Str) (id off : Nat) (ex : Bool) (ms : List Ms) (mid moff : Nat) (mex : Bool) (hs : rd H id off (l.length * 9) = some (l.flatMap Str.av)) (hl : l.length ≤ 20) (hm : rd H mid moff (ms.length * 5) = some (ms.flatMap Ms.av)) (hn : (ms.length : Int) ≤ 9223372036854775807) (hk : ∀ i (h : i < ms.length), 0 ≤ ms[i].k ∧ ms[i].k ≤ 255) :
    ACalls Try.prog F.ref01_Useless [.agg [.slice id off l.length 9 ex], .slice mid moff ms.length 5 mex] H (usR H l ms) := by
  have hid := rd_lt hs
  have hmid := rd_lt hm
  have cn := fun G => c_rNarrowAll (H ++ G) l id off ex ms mid moff mex (by rw [rd_old _ hid]; exact hs) hl (by rw [rd_old _ hmid]; exact hm) hn hk
  by_cases h0 : nrE l ms = 0
  rotate_left
  · have cn := fun G => (cn G).mono fun v h' h => nrR_e h0 h
    rw [← usR_err h0]
    generalize nrE l ms = e at *
    refine acalls_of ok_ref01_Useless rfl fun hcl => ?_
    unfold ac_ref01_Useless
    simp only [argsT, Nat.zero_add, Nat.reduceAdd]
    repeat (first|(with_reducible first|apply X1|apply X2|apply X8)|((with_reducible apply e_end);(simp;exact Red.rfl))|((with_reducible apply O1);rfl;(simp (disch:=omega);exact Red.rfl);exact Red.rfl;(focus (first|(simp;done)|omega|(simp;omega)))))
    (with_reducible apply e_call); (simp; exact Red.rfl); exact cn _
    rintro _ _ ⟨rfl, rfl⟩
    repeat (first|(with_reducible first|apply X1|apply X2|apply X3|apply X8|apply X9)|((with_reducible apply e_end);(simp;exact Red.rfl))|((first|((with_reducible apply O1);rfl)|((with_reducible apply O2);rfl));(simp (disch:=omega) [h0];exact Red.rfl);exact Red.rfl;(focus (first|(simp;done)|omega|(simp;omega))))|((with_reducible apply Z9);(simp (disch:=omega) [h0];exact Red.rfl)))
    refine q_drop (.inr rfl) (by simp; exact Red.rfl) (by simp) ⟨rfl, rfl⟩
  · obtain ⟨hv, hok, hL, hF⟩ := nrE_zero h0
    have h12 := hv.1
    have hm12 := hok.1
    have cn := fun G => (cn G).mono fun v h' h => (congrFun (congrFun (nrR_ok hv h0 (H ++ G)) v) h').mpr h
    have hx : usL l ms = selF (useB l ms) ms.length := by rw [usL, if_pos h0]
    have hR : usR H l ms = fun v h' => v = .tuple [lsV H 1 (selF (useB l ms) ms.length).length, .int .i64 0] ∧ h' = H ++ lsO (selF (useB l ms) ms.length).length (avK (selF (useB l ms) ms.length)) := by
      funext v h'
      rw [usR, hx, h0]
    rw [hR]
    refine acalls_of ok_ref01_Useless rfl fun hcl => ?_
    unfold ac_ref01_Useless
    simp only [argsT, Nat.zero_add, Nat.reduceAdd]
    repeat (first|(with_reducible first|apply X1|apply X2|apply X8)|((with_reducible apply e_end);(simp;exact Red.rfl))|((with_reducible apply O1);rfl;(simp (disch:=omega);exact Red.rfl);exact Red.rfl;(focus (first|(simp;done)|omega|(simp;omega)))))
    (with_reducible apply e_call); (simp; exact Red.rfl); exact cn _
    rintro _ _ ⟨rfl, rfl⟩
    repeat (first|(with_reducible first|apply X1|apply X2|apply X5|apply X6|apply X8)|((with_reducible apply e_end);(simp;exact Red.rfl))|((first|((with_reducible apply O1);rfl)|((with_reducible apply O2);rfl));(simp (disch:=omega);exact Red.rfl);exact Red.rfl;(focus (first|(simp;done)|omega|(simp;omega))))|((with_reducible apply W3);(simp (disch:=omega);exact Red.rfl)))
    refine e_loop (ι := { p : Nat × AV × Heap // p.1 ≤ ms.length ∧ AAt (H ++ [.cells [.slice id off l.length 9 ex] true, .cells (avR (fun j => (lefS l ms j).av) l.length) true, .cells [.slice (H.length + 1) 0 l.length 9 false] true] ++ p.2.2) 1 p.2.1 (avK (selF (useB l ms) p.1)) (selF (useB l ms) p.1).length ∧ ∀ k, isId p.2.1 k → H.length + 3 ≤ k })
      (fun p => [(1, .slice mid moff ms.length 5 mex), (2, .ptr H.length 0), (6, .ptr (H.length + 2) 0), (8, p.1.2.1), (9, .int .i64 p.1.1)])
      (fun p => H ++ [.cells [.slice id off l.length 9 ex] true, .cells (avR (fun j => (lefS l ms j).av) l.length) true, .cells [.slice (H.length + 1) 0 l.length 9 false] true] ++ p.1.2.2) (fun p => ms.length - p.1.1) ⟨(0, .nilslice, []), by simp, AAt.nil _ _, fun _ hk => False.elim hk⟩ ?_ ?_
    · exact .inl (by simp)
    · rintro ⟨⟨i, v, G⟩, hi, hA, hvi⟩
      dsimp only at hi hA hvi ⊢
      by_cases hlt : i < ms.length
      · have hlt2 : (i : Int) < ms.length := by omega
        have hz : ((i : Int) + 1).toNat = i + 1 := by omega
        have hz2 : (i : Int) + 1 ≤ ms.length := by omega
        have tA := ms_take hm (n := i) (by omega)
        have tB := ms_drop hm (n := i + 1) (by omega)
        have lA : ((ms.take i).flatMap Ms.av).length = i * 5 := by rw [ms_lenU, List.length_take, Nat.min_eq_left (by omega)]
        have lB : ((ms.drop (i + 1)).flatMap Ms.av).length = (ms.length - (i + 1)) * 5 := by rw [ms_lenU, List.length_drop]
        have pA := plainMs (ms.take i)
        have pB := plainMs (ms.drop (i + 1))
        simp only [List.append_assoc, List.cons_append, List.nil_append]
        repeat (first|(with_reducible first|apply X1|apply X2|apply X5|apply X6|apply X8|apply Y9)|((with_reducible apply e_end);(simp;exact Red.rfl))|((first|((with_reducible apply O1);rfl)|((with_reducible apply P1);rfl)|((with_reducible apply P2);rfl)|((with_reducible apply P3);rfl));(simp (disch:=omega) [hlt, hlt2, rd_old _ hmid, tA, tB, lA, lB, pA.scal, pB.scal, hz, hz2];exact Red.rfl);exact Red.rfl;(focus (first|(simp;done)|omega|(simp;omega))))|((with_reducible apply Z9);(simp (disch:=omega) [hlt, hlt2, rd_old _ hmid, tA, tB, lA, lB, pA.scal, pB.scal, hz, hz2];exact Red.rfl)))
        (with_reducible apply d_do_); rfl; rfl; (simp (disch := omega) [rd_old _ hmid, tA, lA, pA.scal]; exact Red.rfl); exact Red.rfl
        · (first | (simp; done) | omega | (simp; omega))
        · (first | (simp; done) | omega | (simp; omega))
        · (first | (simp; done) | omega | (simp; omega))
        · simp [recheck, pr, AOp.sem, rd_old _ hmid, tA, lA, pA.scal]
        simp only [St.put]
        repeat ((with_reducible apply P1);rfl;(simp (disch:=omega) [rd_old _ hmid, tA, tB, lA, lB, pA.scal, pB.scal, hz, hz2];exact Red.rfl);exact Red.rfl;(focus (first|(simp;done)|omega|(simp;omega))))
        (with_reducible apply d_do_); rfl; rfl; (simp (disch := omega) [rd_old _ hmid, tB, lA, lB, pB.scal, take_all lA]; exact Red.rfl); exact Red.rfl
        · (first | (simp; done) | omega | (simp; omega))
        · (first | (simp; done) | omega | (simp; omega))
        · (first | (simp; done) | omega | (simp; omega))
        · simp [recheck, pr, AOp.sem, rd_old _ hmid, tB, lA, lB, pB.scal, take_all lA]
        simp only [St.put]
        have hes : ms.take i ++ ms.drop (i + 1) = ms.eraseIdx i := (List.eraseIdx_eq_take_drop_succ ..).symm
        have hel : i + (ms.length - (i + 1)) = (ms.eraseIdx i).length := by rw [few_len hlt]; omega
        rw [← List.flatMap_append, hes, hel]
        have few := ok_sub (few_mem ms i) hok.2
        have fL := good_sub (few_mem ms i) hok.2 hL
        have fF := good_sub (few_mem ms i) hok.2 hF
        have fln := few_len hlt
        have hsu := selF_succ (useB l ms) i
        have hul : useB l ms i = sameB (lefS l (ms.eraseIdx i)) (lefS l ms) l.length := rfl
        generalize ms.eraseIdx i = es at *
        (with_reducible apply d_call_); (simp; exact Red.rfl); exact c_rnarrowG _ l id off ex es _ (by rw [rd_old _ hid]; exact hs) hv (.inr ⟨H.length + (G.length + 2 + 1 + 1 + 1), 0, false, rfl, rd_full (b := true) (by simp [at_new]) (ms_lenU es)⟩) ⟨by omega, few⟩ fL fF; (focus (first | (simp; done) | (simp; omega)))
        repeat (first|(with_reducible first|apply X1|apply X2|apply X8)|((with_reducible apply d_end);(simp;exact Red.rfl))|((first|((with_reducible apply O1);rfl)|((with_reducible apply P1);rfl)|((with_reducible apply P3);rfl)|((with_reducible apply P4);rfl));(simp (disch:=omega);exact Red.rfl);exact Red.rfl;(focus (first|(simp;done)|omega|(simp;omega)))))
        have cS := fun X ha hb => c_SameG X (lefS l es) (lefS l ms) l.length (H.length + (G.length + 3 + 1 + 1 + 1)) (H.length + 1) 0 0 false false ha hb (by omega)
        rw [← hul] at cS
        (with_reducible apply e_call); (simp; exact Red.rfl); exact cS _ (rd_full (b := true) (by simp [at_new]) (lenS _ _)) (rd_full (b := true) (by simp [at_new]) (lenS _ _))
        rintro _ _ ⟨rfl, rfl⟩
        have hA2 := hA.app [.dead, .dead, .cells (es.flatMap Ms.av) true, .cells (avR (fun j => (lefS l es j).av) l.length) true, .cells [.slice (H.length + (G.length + 3 + 1 + 1 + 1)) 0 l.length 9 false] true]
        cases hb : useB l ms i with
        | false =>
          rw [hb] at hsu
          simp only [Bool.false_eq_true, if_false] at hsu
          repeat (first|(with_reducible first|apply X2|apply X5|apply X8|apply Y2)|((with_reducible apply e_end);(simp;exact Red.rfl))|((with_reducible apply O1);rfl;(simp (disch:=omega);exact Red.rfl);exact Red.rfl;(focus (first|(simp;done)|omega|(simp;omega))))|((with_reducible apply W3);(simp (disch:=omega);exact Red.rfl)))
          exact q_again ⟨(i + 1, v, G ++ [.dead, .dead, .cells (es.flatMap Ms.av) true, .cells (avR (fun j => (lefS l es j).av) l.length) true, .cells [.slice (H.length + (G.length + 3 + 1 + 1 + 1)) 0 l.length 9 false] true]), hlt, by rw [hsu]; simpa using hA2, hvi⟩ (by dsimp only; omega) (.inl (by simp))
        | true =>
          rw [hb] at hsu
          simp only [if_true] at hsu
          have hln := selF_len (useB l ms) i
          repeat (first|(with_reducible first|apply X2|apply X8)|((with_reducible apply e_end);(simp;exact Red.rfl))|((with_reducible apply O1);rfl;(simp (disch:=omega);exact Red.rfl);exact Red.rfl;(focus (first|(simp;done)|omega|(simp;omega))))|((with_reducible apply Z9);(simp (disch:=omega);exact Red.rfl)))
          refine e_appA (A := H ++ [.cells [.slice id off l.length 9 ex] true, .cells (avR (fun j => (lefS l ms j).av) l.length) true, .cells [.slice (H.length + 1) 0 l.length 9 false] true]) (G := G ++ [.dead, .dead, .cells (es.flatMap Ms.av) true, .cells (avR (fun j => (lefS l es j).av) l.length) true, .cells [.slice (H.length + (G.length + 3 + 1 + 1 + 1)) 0 l.length 9 false] true] ++ [.cells [.int .i64 (i : Int)] true]) (cs := avK (selF (useB l ms) i)) (n := (selF (useB l ms) i).length) (m := 1) (new := [.int .i64 (i : Int)]) (by simp) (by simp; exact Red.rfl) (by simp; exact Red.rfl) (by have := hA2.app [.cells [.int .i64 (i : Int)] true]; simpa using this) (fun k hk => by have := hvi k hk; simp; omega) (by simp [Nat.add_assoc]) (by simp) (by omega) (by omega) ?_
          intro G2 v2 e3 e4 _ _ _
          repeat (first|(with_reducible first|apply X2|apply X8|apply Y2)|((with_reducible apply e_end);(simp;exact Red.rfl))|((with_reducible apply O1);rfl;(simp (disch:=omega);exact Red.rfl);exact Red.rfl;(focus (first|(simp;done)|omega|(simp;omega)))))
          exact q_again ⟨(i + 1, v2, G2), hlt, by rw [hsu, List.length_append, ← avK_app]; exact e3, fun k hk => by have := e4 k hk; simpa using this⟩ (by dsimp only; omega) (.inl (by simp))
      · obtain rfl : i = ms.length := by omega
        repeat (first|(with_reducible first|apply X1|apply X2|apply X3|apply X4|apply X8|apply Y1|apply Y4|apply Y6)|((with_reducible apply e_end);(simp;exact Red.rfl))|((with_reducible apply O1);rfl;(simp (disch:=omega);exact Red.rfl);exact Red.rfl;(focus (first|(simp;done)|omega|(simp;omega))))|((with_reducible apply W3);(simp (disch:=omega);exact Red.rfl)))
        have hle := le_ls (fun x => .tuple [x, .int .i64 0]) (fun x ρ => rfl) (fun x m h => by simpa [AV.sc, scL] using h) (plainK _) (by simpa only [List.append_assoc] using hA) (fun k hk => by have := hvi k hk; omega)
        simp only [List.cons_append, List.nil_append] at hle
        exact q_post (.inr rfl) (by simp; exact Red.rfl) hle ⟨rfl, rfl⟩
end Go.Proofs
/- The law TrackNarrows. -/
namespace Go.Proofs
open Go.Abs
attribute [local simp] AOp.den AOpd.ev lk cellsOf rd_new rd_new0 rd_zero rd_succ wr_new wr_new0 wr_zero wr_succ splice fillA binA scal sliceCells List.length_append argsT AV.sc scL AObj.sc resV getAll AR.get AOp.slots opdSlots opdsSlots partSlots eqAt at_new0 at_new set_new0 set_new wrap64
set_option linter.unusedSimpArgs false
set_option linter.unusedVariables false
theorem c_r1SameR (H : Heap) (u w : AV) (l : List Str) (ha : RAt H 9 u (l.flatMap Str.av) l.length) (hb : RAt H 9 w (l.flatMap Str.av) l.length) (hn : l.length ≤ 1000) :
    ACalls Try.prog F.ref01_Same [.agg [u], .agg [w]] H (fun v h' => v = .bool true ∧ h' = H) := by
  have hsa : ∀ k, u.sc (H.length + k) = true := fun k => RAt.sc ha (by omega)
  have hsb : ∀ k, w.sc (H.length + k) = true := fun k => RAt.sc hb (by omega)
  have ua : scal u = true := by obtain ⟨_, ⟨rfl, _⟩ | ⟨_, _, _, rfl, _⟩⟩ := ha <;> rfl
  have ub : scal w = true := by obtain ⟨_, ⟨rfl, _⟩ | ⟨_, _, _, rfl, _⟩⟩ := hb <;> rfl
  refine acalls_of ok_ref01_Same rfl fun hcl => ?_
  unfold ac_ref01_Same
  simp only [argsT, Nat.zero_add, Nat.reduceAdd]
  repeat (first|(with_reducible first|apply X1|apply X2|apply X8)|((with_reducible apply e_end);(simp;exact Red.rfl))|((with_reducible apply O1);rfl;(simp (disch:=omega);exact Red.rfl);exact Red.rfl;(focus (first|(simp;done)|omega|(simp;omega)))))
  (with_reducible apply e_op); rfl; exact RAt.len ha _ (by simp); exact Red.rfl; trivial
  repeat ((with_reducible apply O1);rfl;(simp (disch:=omega);exact Red.rfl);exact Red.rfl;(focus (first|(simp;done)|omega|(simp;omega))))
  (with_reducible apply e_op); rfl; exact RAt.len hb _ (by simp); exact Red.rfl; trivial
  repeat (first|(with_reducible first|apply X1|apply X2|apply X5|apply X6|apply X8)|((with_reducible apply e_end);(simp;exact Red.rfl))|((with_reducible apply O1);rfl;(simp (disch:=omega);exact Red.rfl);exact Red.rfl;(focus (first|(simp;done)|omega|(simp;omega))))|((with_reducible apply W3);(simp (disch:=omega);exact Red.rfl)))
  refine e_loop (ι := { i : Nat // i ≤ l.length }) (fun i => [(2, .ptr H.length 0), (3, .ptr (H.length + 1) 0), (5, .int .i64 i.1)]) (fun _ => H ++ [.cells [u] true, .cells [w] true]) (fun i => l.length - i.1) ⟨0, by simp⟩ ?_ ?_
  · exact .inl rfl
  · rintro ⟨i, hi⟩
    dsimp only
    repeat (first|(with_reducible first|apply X1|apply X2)|((with_reducible apply O1);rfl;(simp (disch:=omega);exact Red.rfl);exact Red.rfl;(focus (first|(simp;done)|omega|(simp;omega)))))
    (with_reducible apply e_op); rfl; exact RAt.len ha _ (by simp); exact Red.rfl; trivial
    by_cases hlt : i < l.length
    · have hlt2 : (i : Int) < l.length := by omega
      rw [flat_eq] at ha hb
      obtain ⟨id, off, ex, rfl, hx, hai⟩ := RAt.row (plain_str l) ha hlt
      obtain ⟨id', off', ex', rfl, hy, hbi⟩ := RAt.row (plain_str l) hb hlt
      generalize strAt l i = s at hx hy
      obtain ⟨a1, a2, a3, a4, a5, a6, a7, a8, a9⟩ := s
      simp only [Str.av] at hx hy
      repeat (first|(with_reducible first|apply X1|apply X2|apply X5|apply X6|apply X8|apply Y2|apply Y9)|((with_reducible first|apply e_end|apply d_end);(simp;exact Red.rfl))|((first|((with_reducible apply O1);rfl)|((with_reducible apply P1);rfl)|((with_reducible apply P2);rfl));(simp (disch:=omega) [hlt, hlt2, rd_old _ hai, rd_old _ hbi, hx, hy];exact Red.rfl);exact Red.rfl;(focus (first|(simp;done)|omega|(simp;omega))))|((with_reducible apply Z9);(simp (disch:=omega) [hlt, hlt2, rd_old _ hai, rd_old _ hbi, hx, hy];exact Red.rfl))|((with_reducible apply W3);(simp (disch:=omega) [hlt, hlt2, rd_old _ hai, rd_old _ hbi, hx, hy];exact Red.rfl)))
      exact q_again ⟨i + 1, hlt⟩ (by dsimp only; omega) (.inl (by simp))
    · have hlt2 : ¬ (i : Int) < l.length := by omega
      repeat (first|(with_reducible first|apply X1|apply X2|apply X3|apply X4|apply X8|apply Y1|apply Y4|apply Y6)|((with_reducible apply e_end);(simp;exact Red.rfl))|((with_reducible apply O1);rfl;(simp (disch:=omega) [hlt2];exact Red.rfl);exact Red.rfl;(focus (first|(simp;done)|omega|(simp;omega))))|((with_reducible apply W3);(simp (disch:=omega) [hlt2];exact Red.rfl)))
      refine q_drop (.inr rfl) (by simp; exact Red.rfl) (by simp) ⟨rfl, rfl⟩
theorem ls_r (H : Heap) {sz n : Nat} {cs : List AV} (hc : cs.length = n * sz) (G : Heap) : RAt (H ++ (lsO n cs ++ G)) sz (lsV H sz n) cs n := by
  have h := ((ls_at H hc).app G).l.r
  simpa using h
theorem iat_K {H : Heap} {v : AV} {xs : List Nat} (h : RAt H 1 v (avK xs) xs.length) : IAt H v (xs.map fun k : Nat => (k : Int)) := by
  unfold IAt
  rw [List.length_map]
  have : iv (xs.map fun k : Nat => (k : Int)) = avK xs := by simp [iv, avK]
  rw [this]; exact h

theorem nrX {H : Heap} {l : List Str} {ms : List Ms} {v : AV} {h' : Heap} (h : nrR H l ms v h') : ∃ u, v = .tuple [.agg [u], .int .i64 (nrE l ms)] ∧ scal u = true ∧ ∃ G, h' = H ++ G ∧ RAt h' 9 u ((listS (lefS l ms) (nrN l ms)).flatMap Str.av) (listS (lefS l ms) (nrN l ms)).length := by
  obtain ⟨rfl, rfl⟩ := h
  refine ⟨_, rfl, ?_, _, rfl, ?_⟩
  · unfold lsV; split <;> rfl
  · rw [listS_av, listS_length]
    have := ls_r H (sz := 9) (n := nrN l ms) (lenS (lefS l ms) (nrN l ms)) []
    simpa using this
theorem usX {H : Heap} {l : List Str} {ms : List Ms} {v : AV} {h' : Heap} (h : usR H l ms v h') : ∃ u, v = .tuple [u, .int .i64 (nrE l ms)] ∧ scal u = true ∧ ∃ G, h' = H ++ G ∧ IAt h' u ((usL l ms).map fun k : Nat => (k : Int)) := by
  obtain ⟨rfl, rfl⟩ := h
  refine ⟨_, rfl, ?_, _, rfl, iat_K ?_⟩
  · unfold lsV; split <;> rfl
  · have := ls_r H (sz := 1) (n := (usL l ms).length) (cs := avK (usL l ms)) (by simp [avK]) []
    simpa using this
/-- What the law's calls read. -/
structure NF (Y : Heap) (l : List Str) (ms : List Ms) (id off mid moff p q p5 q6 : Nat) (ex : Bool) : Prop where
  r0 : rd Y id off (l.length * 9) = some (l.flatMap Str.av)
  rm : rd Y mid moff (ms.length * 5) = some (ms.flatMap Ms.av)
  r2 : rd Y p 0 1 = some [.slice id off l.length 9 ex]
  r5 : rd Y p5 0 1 = some [.slice q 0 l.length 9 false]
  rq : rd Y q 0 (l.length * 9) = some (l.flatMap Str.av)
  r6 : rd Y q6 0 (ms.length * 5) = some (ms.flatMap Ms.av)
theorem NF.app {Y : Heap} {l : List Str} {ms : List Ms} {id off mid moff p q p5 q6 : Nat} {ex : Bool} (h : NF Y l ms id off mid moff p q p5 q6 ex) (G : Heap) : NF (Y ++ G) l ms id off mid moff p q p5 q6 ex := by
  obtain ⟨h1, h2, h3, h4, h5, h6⟩ := h
  exact ⟨by rw [rd_old _ (rd_lt h1)]; exact h1, by rw [rd_old _ (rd_lt h2)]; exact h2, by rw [rd_old _ (rd_lt h3)]; exact h3, by rw [rd_old _ (rd_lt h4)]; exact h4, by rw [rd_old _ (rd_lt h5)]; exact h5, by rw [rd_old _ (rd_lt h6)]; exact h6⟩
theorem rd_app {Y : Heap} {id off n : Nat} {vs : List AV} (h : rd Y id off n = some vs) (G : Heap) : rd (Y ++ G) id off n = some vs := by rw [rd_old _ (rd_lt h)]; exact h
set_option maxHeartbeats 8000000 in
theorem c_lawTN (H : Heap) (l : List Str) (ms : List Ms) (id off mid moff : Nat) (ex mex : Bool) (hs : rd H id off (l.length * 9) = some (l.flatMap Str.av))
    (hm : rd H mid moff (ms.length * 5) = some (ms.flatMap Ms.av)) (hn : (ms.length : Int) ≤ 9223372036854775807) (hk : ∀ i (h : i < ms.length), 0 ≤ ms[i].k ∧ ms[i].k ≤ 255) :
    ACalls Try.prog F.law01_TrackNarrows [.agg [.slice id off l.length 9 ex], .slice mid moff ms.length 5 mex] H (fun v _ => v = .bool true) := by
  refine acalls_of ok_law01_TrackNarrows rfl fun hcl => ?_
  unfold ac_law01_TrackNarrows
  simp only [argsT, Nat.zero_add, Nat.reduceAdd]
  have hid := rd_lt hs
  have hmid := rd_lt hm
  repeat (first|(with_reducible first|apply X1|apply X2|apply X8)|((with_reducible apply e_end);(simp;exact Red.rfl))|((with_reducible apply O1);rfl;(simp (disch:=omega);exact Red.rfl);exact Red.rfl;(focus (first|(simp;done)|omega|(simp;omega)))))
  (with_reducible apply e_call); (simp; exact Red.rfl); exact c_great _ _ _ _ _ (by simp; omega)
  rintro _ _ ⟨rfl, rfl⟩
  by_cases h20 : 20 < l.length
  · repeat (first|(with_reducible first|apply X1|apply X2|apply X3|apply X8|apply X9)|((with_reducible apply e_end);(simp;exact Red.rfl))|((with_reducible apply O1);rfl;(simp (disch:=omega) [h20];exact Red.rfl);exact Red.rfl;(focus (first|(simp;done)|omega|(simp;omega))))|((with_reducible apply Z9);(simp (disch:=omega) [h20];exact Red.rfl))|((with_reducible apply Z2);(simp (disch:=omega) [h20];exact Red.rfl)))
    refine q_drop (.inr rfl) (by simp; exact Red.rfl) (by simp) rfl
  · by_cases hm20 : 20 < ms.length
    · have hm2 : (20 : Int) < ms.length := by omega
      repeat (first|(with_reducible first|apply X1|apply X2|apply X3|apply X8|apply X9)|((with_reducible apply e_end);(simp;exact Red.rfl))|((with_reducible apply O1);rfl;(simp (disch:=omega) [h20, hm2];exact Red.rfl);exact Red.rfl;(focus (first|(simp;done)|omega|(simp;omega))))|((with_reducible first|apply Z7|apply Z9);(simp (disch:=omega) [h20, hm2];exact Red.rfl)))
      refine q_drop (.inr rfl) (by simp; exact Red.rfl) (by simp) rfl
    · have hm2 : ¬ (20 : Int) < ms.length := by omega
      have pm := plainMs ms
      have lm := ms_lenU ms
      have hle1 : ms.length * 40 ≤ 140737488355328 := by omega
      repeat (first|(with_reducible first|apply X1|apply X2|apply X5|apply X8)|((with_reducible apply e_end);(simp;exact Red.rfl))|((with_reducible apply O1);rfl;(simp (disch:=omega) [h20, hm2];exact Red.rfl);exact Red.rfl;(focus (first|(simp;done)|omega|(simp;omega))))|((with_reducible apply Z7);(simp (disch:=omega) [h20, hm2];exact Red.rfl))|((with_reducible apply W3);(simp (disch:=omega) [h20, hm2];exact Red.rfl)))
      (with_reducible apply e_call); (simp; exact Red.rfl); exact c_Twin _ l id off ex (by rw [rd_old _ hid]; exact hs) (by omega)
      rintro _ _ ⟨rfl, rfl⟩
      repeat (first|(with_reducible first|apply X1|apply X2|apply X8)|((with_reducible apply e_end);(simp;exact Red.rfl))|((first|((with_reducible apply O1);rfl)|((with_reducible apply O2);rfl));(simp (disch:=omega) [rd_old _ hmid, hm, pm.scal, lm, take_all lm, hle1];exact Red.rfl);exact Red.rfl;(focus (first|(simp;done)|omega|(simp;omega)))))
      refine gen_ops (fun t X => ∃ q p5 q6 : Nat, t = [(30, .slice q6 0 ms.length 5 false), (29, .agg [.slice q 0 l.length 9 false]), (1, .slice mid moff ms.length 5 mex), (2, .ptr H.length 0), (5, .ptr p5 0), (6, .slice q6 0 ms.length 5 false)] ∧ NF X l ms id off mid moff H.length q p5 q6 ex)
        ⟨_, _, _, rfl, ⟨by rw [rd_old _ hid]; exact hs, by rw [rd_old _ hmid]; exact hm, by simp, by simp, rd_full (b := true) (by simp [at_new]) (by rw [flat_eq]; exact (plain_str l).length _), rd_full (b := true) (by simp [at_new]) lm⟩⟩ ?_
      rintro _ Y ⟨q, p5, q6, rfl, N⟩
      have hLn : (listS (lefS l ms) (nrN l ms)).length ≤ 1000 := by rw [listS_length, nrN]; split <;> omega
      have hUn : (((usL l ms).map fun k : Nat => (k : Int)).length : Int) < 1000000 := by
        rw [List.length_map, usL]
        split
        · have := selF_len (useB l ms) ms.length; omega
        · simp
      (with_reducible apply e_call); (simp; exact Red.rfl); exact c_NarrowAll _ l q 0 false ms q6 0 false N.rq (by omega) N.r6 hn
      intro v h' hR
      obtain ⟨u1, rfl, s1, G1, rfl, R1⟩ := nrX hR
      have N := N.app G1
      clear hR
      generalize Y ++ G1 = V1 at *
      repeat ((with_reducible apply O1);rfl;(simp (disch:=omega);exact Red.rfl);exact Red.rfl;(focus (first|(simp;done)|omega|(simp;omega))))
      (with_reducible apply O2); rfl; (simp [s1]; exact Red.rfl); exact Red.rfl; exact s1
      have R1 := R1.app [.cells [u1] true]
      have m7 : rd (V1 ++ [.cells [u1] true]) V1.length 0 1 = some [u1] := by simp
      have N := N.app [.cells [u1] true]
      generalize V1 ++ [.cells [u1] true] = V2 at *
      generalize V1.length = p7 at *
      have N2 := N.r2
      repeat (first|(with_reducible first|apply X1|apply X2|apply X8)|((with_reducible apply e_end);(simp;exact Red.rfl))|((with_reducible apply O1);rfl;(simp (disch:=omega) [N2];exact Red.rfl);exact Red.rfl;(focus (first|(simp;done)|omega|(simp;omega)))))
      (with_reducible apply e_call); (simp; exact Red.rfl); exact c_rNarrowAll _ l id off ex ms mid moff mex N.r0 (by omega) N.rm hn hk
      intro v h' hR
      obtain ⟨u2, rfl, s2, G2, rfl, R2⟩ := nrX hR
      clear hR
      have N := N.app G2
      have R1 := R1.app G2
      have m7 := rd_app m7 G2
      generalize V2 ++ G2 = V3 at *
      repeat ((with_reducible apply O1);rfl;(simp (disch:=omega);exact Red.rfl);exact Red.rfl;(focus (first|(simp;done)|omega|(simp;omega))))
      (with_reducible apply O2); rfl; (simp [s2]; exact Red.rfl); exact Red.rfl; exact s2
      have R1 := R1.app [.cells [u2] true]
      have R2 := R2.app [.cells [u2] true]
      have m7 := rd_app m7 [.cells [u2] true]
      have m9 : rd (V3 ++ [.cells [u2] true]) V3.length 0 1 = some [u2] := by simp
      have N := N.app [.cells [u2] true]
      generalize V3 ++ [.cells [u2] true] = V4 at *
      generalize V3.length = p9 at *
      have N5 := N.r5
      repeat (first|(with_reducible first|apply X1|apply X2|apply X8)|((with_reducible apply e_end);(simp;exact Red.rfl))|((with_reducible apply O1);rfl;(simp (disch:=omega) [N5];exact Red.rfl);exact Red.rfl;(focus (first|(simp;done)|omega|(simp;omega)))))
      (with_reducible apply e_call); (simp; exact Red.rfl); exact c_UselessAll _ l q 0 false ms q6 0 false N.rq (by omega) N.r6 hn
      intro v h' hR
      obtain ⟨u3, rfl, s3, G3, rfl, R3⟩ := usX hR
      clear hR
      have N := N.app G3
      have R1 := R1.app G3
      have R2 := R2.app G3
      have m7 := rd_app m7 G3
      have m9 := rd_app m9 G3
      generalize V4 ++ G3 = V5 at *
      have N2 := N.r2
      repeat (first|(with_reducible first|apply X1|apply X2|apply X8)|((with_reducible apply e_end);(simp;exact Red.rfl))|((with_reducible apply O1);rfl;(simp (disch:=omega) [N2, s3];exact Red.rfl);exact Red.rfl;(focus (first|(simp;done)|omega|(simp;omega)))))
      (with_reducible apply e_call); (simp; exact Red.rfl); exact c_rUselessAll _ l id off ex ms mid moff mex N.r0 (by omega) N.rm hn hk
      intro v h' hR
      obtain ⟨u4, rfl, s4, G4, rfl, R4⟩ := usX hR
      clear hR
      have N := N.app G4
      have R1 := R1.app G4
      have R2 := R2.app G4
      have R3 : IAt (V5 ++ G4) u3 _ := RAt.app R3 G4
      have m7 := rd_app m7 G4
      have m9 := rd_app m9 G4
      generalize V5 ++ G4 = Z at *
      repeat (first|(with_reducible first|apply X1|apply X2|apply X6|apply X8)|((with_reducible apply e_end);(simp;exact Red.rfl))|((with_reducible apply O1);rfl;(simp (disch:=omega) [s4];exact Red.rfl);exact Red.rfl;(focus (first|(simp;done)|omega|(simp;omega)))))
      refine e_loop (ι := { i : Nat // i ≤ ms.length })
        (fun i => [(1, .slice mid moff ms.length 5 mex), (2, .ptr H.length 0), (5, .ptr p5 0), (6, .slice q6 0 ms.length 5 false), (7, .ptr p7 0), (8, .int .i64 (nrE l ms)), (9, .ptr p9 0), (10, .int .i64 (nrE l ms)), (11, u3), (12, .int .i64 (nrE l ms)), (13, u4), (14, .int .i64 (nrE l ms)), (53, .int .i64 ms.length), (54, .int .i64 i.1)])
        (fun _ => Z) (fun i => ms.length - i.1) ⟨0, by omega⟩ ?_ ?_
      · exact .inl rfl
      · rintro ⟨i, hi⟩
        dsimp only
        by_cases hlt : i < ms.length
        · have hlt2 : (i : Int) < ms.length := by omega
          have hx := rd_row Ms.av_length N.rm hlt
          have hy := rd_row Ms.av_length N.r6 hlt
          generalize ms[i] = y at hx hy
          obtain ⟨y1, y2, y3, y4, y5⟩ := y
          simp only [Ms.av, Nat.zero_add] at hx hy
          repeat (first|(with_reducible first|apply X1|apply X2|apply X5|apply X6|apply X8|apply Y2|apply Y9)|((with_reducible first|apply e_end|apply d_end);(simp;exact Red.rfl))|((first|((with_reducible apply O1);rfl)|((with_reducible apply P1);rfl)|((with_reducible apply P2);rfl));(simp (disch:=omega) [hlt, hlt2, hx, hy];exact Red.rfl);exact Red.rfl;(focus (first|(simp;done)|omega|(simp;omega))))|((with_reducible apply Z9);(simp (disch:=omega) [hlt, hlt2, hx, hy];exact Red.rfl))|((with_reducible apply W3);(simp (disch:=omega) [hlt, hlt2, hx, hy];exact Red.rfl)))
          exact q_again ⟨i + 1, hlt⟩ (by dsimp only; omega) (.inl (by simp))
        · obtain rfl : i = ms.length := by omega
          clear hlt hi
          have N5 := N.r5
          have N2 := N.r2
          have cS := c_r1SameR Z u1 u2 _ R1 R2 hLn
          have cI := c_r1SameInts Z u3 u4 _ R3 R4 hUn
          have hll : (l.flatMap Str.av).length = l.length * 9 := by rw [flat_eq]; exact (plain_str l).length _
          have cT := c_r1SameR Z (.slice q 0 l.length 9 false) (.slice id off l.length 9 ex) l ⟨hll, .inr ⟨_, _, _, rfl, N.rq⟩⟩ ⟨hll, .inr ⟨_, _, _, rfl, N.r0⟩⟩ (by omega)
          clear R1 R2 R3 R4
          repeat (first|(with_reducible first|apply X1|apply X2|apply X4|apply X8|apply Y1|apply Y4|apply Y6)|((with_reducible apply e_end);(simp;exact Red.rfl))|((with_reducible apply O1);rfl;(simp (disch:=omega) [m7, m9];exact Red.rfl);exact Red.rfl;(focus (first|(simp;done)|omega|(simp;omega))))|((with_reducible apply W3);(simp (disch:=omega) [m7, m9];exact Red.rfl)))
          (with_reducible apply e_call); (simp; exact Red.rfl); exact cS
          rintro _ hqh ⟨rfl, hqe⟩
          rw [hqe]; clear hqe hqh
          repeat (first|((with_reducible apply O1);rfl;(simp (disch:=omega);exact Red.rfl);exact Red.rfl;(focus (first|(simp;done)|omega|(simp;omega))))|((with_reducible apply Z7);(simp (disch:=omega);exact Red.rfl)))
          (with_reducible apply e_call); (simp; exact Red.rfl); exact cI
          rintro _ hqh ⟨rfl, hqe⟩
          rw [hqe]; clear hqe hqh
          repeat (first|((with_reducible apply O1);rfl;(simp (disch:=omega) [N5, N2];exact Red.rfl);exact Red.rfl;(focus (first|(simp;done)|omega|(simp;omega))))|((with_reducible apply Z7);(simp (disch:=omega) [N5, N2];exact Red.rfl)))
          (with_reducible apply e_call); (simp; exact Red.rfl); exact cT
          rintro _ hqh ⟨rfl, hqe⟩
          rw [hqe]; clear hqe hqh
          repeat (first|(with_reducible first|apply X3|apply X8)|((with_reducible apply e_end);(simp;exact Red.rfl))|((with_reducible apply O1);rfl;(simp (disch:=omega);exact Red.rfl);exact Red.rfl;(focus (first|(simp;done)|omega|(simp;omega)))))
          trace_state
          exact q_stay (.inr rfl) (by simp; exact Red.rfl) rfl
end Go.Proofs
