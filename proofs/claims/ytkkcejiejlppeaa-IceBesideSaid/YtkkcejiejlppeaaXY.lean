/- Several texts as one. -/
import Derived.Test.YtkkcejiejlppeaaDD
import Derived.Test.YtkkcejiejlppeaaRA
/- Lists and tracks that are compared. -/
namespace Go.Proofs
open Go.Abs
attribute [local simp] AOp.den AOpd.ev lk cellsOf rd_new rd_new0 rd_zero rd_succ wr_new wr_new0 wr_zero wr_succ splice fillA binA scal sliceCells List.length_append argsT AV.sc scL AObj.sc resV getAll AR.get AOp.slots opdSlots opdsSlots partSlots eqAt at_new0 at_new set_new0 set_new wrap64
set_option linter.unusedSimpArgs false
set_option linter.unusedVariables false
theorem c_r1SameInts (H : Heap) (a b : AV) (l : List Int) (ha : IAt H a l) (hb : IAt H b l) (hn : (l.length : Int) < 1000000) : ACalls Try.prog F.ref01_SameInts [a, b] H (fun v h' => v = .bool true ∧ h' = H) := by
  have hsa : ∀ k, a.sc (H.length + k) = true := fun k => RAt.sc ha (by omega)
  have hsb : ∀ k, b.sc (H.length + k) = true := fun k => RAt.sc hb (by omega)
  refine acalls_of ok_ref01_SameInts rfl fun hcl => ?_
  unfold ac_ref01_SameInts
  simp only [argsT, Nat.zero_add, Nat.reduceAdd]
  repeat (first|(with_reducible first|apply X1|apply X2|apply X8)|((with_reducible apply e_end);(simp;exact Red.rfl))|((with_reducible apply O1);rfl;(simp (disch:=omega);exact Red.rfl);exact Red.rfl;(focus (first|(simp;done)|omega|(simp;omega)))))
  (with_reducible apply e_op); rfl; exact RAt.len ha _ (by simp); exact Red.rfl; trivial
  repeat ((with_reducible apply O1);rfl;(simp (disch:=omega);exact Red.rfl);exact Red.rfl;(focus (first|(simp;done)|omega|(simp;omega))))
  (with_reducible apply e_op); rfl; exact RAt.len hb _ (by simp); exact Red.rfl; trivial
  repeat (first|(with_reducible first|apply X1|apply X2|apply X5|apply X6|apply X8)|((with_reducible apply e_end);(simp;exact Red.rfl))|((with_reducible apply O1);rfl;(simp (disch:=omega);exact Red.rfl);exact Red.rfl;(focus (first|(simp;done)|omega|(simp;omega))))|((with_reducible apply W3);(simp (disch:=omega);exact Red.rfl)))
  refine e_loop (ι := { i : Nat // i ≤ l.length }) (fun i => [(0, a), (1, b), (5, .int .i64 i.1)]) (fun _ => H) (fun i => l.length - i.1) ⟨0, by simp⟩ ?_ ?_
  · exact .inr <| le_id (by simp; exact ⟨hsa 0, hsb 0⟩)
  · rintro ⟨i, hi⟩
    dsimp only
    repeat (first|(with_reducible first|apply X1|apply X2)|((with_reducible apply O1);rfl;(simp (disch:=omega);exact Red.rfl);exact Red.rfl;(focus (first|(simp;done)|omega|(simp;omega)))))
    (with_reducible apply e_op); rfl; exact RAt.len ha _ (by simp); exact Red.rfl; trivial
    by_cases hlt : i < l.length
    · have hlt2 : (i : Int) < l.length := by omega
      obtain ⟨id, off, ex, rfl, hx, hid⟩ := IAt.get ha hlt
      obtain ⟨id', off', ex', rfl, hx', hid'⟩ := IAt.get hb hlt
      repeat (first|(with_reducible first|apply X1|apply X2|apply X5|apply X6|apply X8|apply Y2|apply Y9)|((with_reducible first|apply e_end|apply d_end);(simp;exact Red.rfl))|((first|((with_reducible apply O1);rfl)|((with_reducible apply P1);rfl)|((with_reducible apply P2);rfl));(simp (disch:=omega) [hlt, hlt2, hx, hx'];exact Red.rfl);exact Red.rfl;(focus (first|(simp;done)|omega|(simp;omega))))|((with_reducible apply Z9);(simp (disch:=omega) [hlt, hlt2, hx, hx'];exact Red.rfl))|((with_reducible apply W3);(simp (disch:=omega) [hlt, hlt2, hx, hx'];exact Red.rfl)))
      exact q_again ⟨i + 1, hlt⟩ (by dsimp only; omega) (.inl (by simp))
    · have hlt2 : ¬ (i : Int) < l.length := by omega
      repeat (first|(with_reducible first|apply X1|apply X2|apply X3|apply X4|apply X8|apply Y1|apply Y4|apply Y6)|((with_reducible apply e_end);(simp;exact Red.rfl))|((with_reducible apply O1);rfl;(simp (disch:=omega) [hlt2];exact Red.rfl);exact Red.rfl;(focus (first|(simp;done)|omega|(simp;omega))))|((with_reducible apply W3);(simp (disch:=omega) [hlt2];exact Red.rfl)))
      refine q_stay (.inr rfl) (by simp; exact Red.rfl) ⟨rfl, rfl⟩
theorem RAt.row {h : Heap} {v : AV} {r : Nat → List AV} {k n : Nat} (hr : PlainRow k r) (hl : RAt h k v (avR r n) n) {i : Nat} (hi : i < n) : ∃ id off ex, v = .slice id off n k ex ∧ rd h id (off + i * k) k = some (r i) ∧ id < h.length := by
  obtain ⟨id, off, ex, rfl, hh⟩ := RAt.slice hl (by omega)
  refine ⟨id, off, ex, rfl, ?_, rd_lt hh⟩
  rw [rd_at hh hi, hr.row hi]
theorem c_Grow (H : Heap) (m : Nat) (h0 : 0 < m) (hm : m ≤ 1000) : ACalls Try.prog F.slices_Grow_api_Stretch_api_Stretch [.nilslice, .int .i64 m] H
    (fun v h' => v = .slice H.length 0 0 9 false ∧ ∃ cs, h' = H ++ [.cells cs true]) := by
  refine acalls_of ok_slices_Grow_api_Stretch_api_Stretch rfl fun hcl => ?_
  unfold ac_slices_Grow_api_Stretch_api_Stretch
  simp only [argsT, Nat.zero_add, Nat.reduceAdd]
  have h1 : (0 : Int) < m := by omega
  repeat (first|(with_reducible first|apply X1|apply X2|apply X3|apply X5|apply X8)|((with_reducible apply e_end);(simp;exact Red.rfl))|((with_reducible apply O1);rfl;(simp (disch:=omega) [h1, h0];exact Red.rfl);exact Red.rfl;(focus (first|(simp;done)|omega|(simp;omega))))|((with_reducible apply Z9);(simp (disch:=omega) [h1, h0];exact Red.rfl))|((with_reducible apply W3);(simp (disch:=omega) [h1, h0];exact Red.rfl)))
  exact q_stay (.inr rfl) (by simp; exact Red.rfl) ⟨rfl, _, rfl⟩
theorem c_Concat (H : Heap) (a b : List Str) (id1 o1 id2 o2 sid : Nat) (e1 e2 : Bool) (ha : rd H id1 o1 (a.length * 9) = some (a.flatMap Str.av)) (hb : rd H id2 o2 (b.length * 9) = some (b.flatMap Str.av))
    (hs : rd H sid 0 2 = some [.slice id1 o1 a.length 9 e1, .slice id2 o2 b.length 9 e2]) (h0 : 0 < a.length) (h1 : a.length ≤ 100) (h2 : b.length ≤ 100) :
    ACalls Try.prog F.slices_Concat_api_Stretch_api_Stretch [.slice sid 0 2 1 true] H (fun v h' => v = .slice H.length 0 (a.length + b.length) 9 false ∧ h' = H ++ [.cells ((a ++ b).flatMap Str.av) true]) := by
  refine acalls_of ok_slices_Concat_api_Stretch_api_Stretch rfl fun hcl => ?_
  unfold ac_slices_Concat_api_Stretch_api_Stretch
  simp only [argsT, Nat.zero_add, Nat.reduceAdd]
  have hsid := rd_lt hs
  have g0 : rd H sid 0 1 = some [.slice id1 o1 a.length 9 e1] := by
    have := rd_sub hs (show 0 + 1 ≤ 2 by omega)
    simpa using this
  have g1 : rd H sid 1 1 = some [.slice id2 o2 b.length 9 e2] := by
    have := rd_sub hs (show 1 + 1 ≤ 2 by omega)
    simpa using this
  repeat (first|(with_reducible first|apply X1|apply X2|apply X6|apply X8)|((with_reducible apply e_end);(simp;exact Red.rfl))|((with_reducible apply O1);rfl;(simp (disch:=omega);exact Red.rfl);exact Red.rfl;(focus (first|(simp;done)|omega|(simp;omega)))))
  refine e_loop (ι := { k : Nat // k ≤ 2 }) (fun k => [(0, .slice sid 0 2 1 true), (3, .int .i64 (if k.1 = 0 then 0 else if k.1 = 1 then (a.length : Int) else (a.length : Int) + b.length)), (9, .slice sid 0 2 1 true), (10, .int .i64 2), (11, .int .i64 k.1)]) (fun _ => H) (fun k => 2 - k.1) ⟨0, by omega⟩ ?_ ?_
  · exact .inl rfl
  · rintro ⟨k, hk⟩
    dsimp only
    rcases (by omega : k = 0 ∨ k = 1 ∨ k = 2) with rfl | rfl | rfl
    · repeat (first|(with_reducible first|apply X1|apply X2|apply X5|apply X6|apply X8|apply Y2)|((with_reducible apply e_end);(simp;exact Red.rfl))|((with_reducible apply O1);rfl;(simp (disch:=omega) [g0];exact Red.rfl);exact Red.rfl;(focus (first|(simp;done)|omega|(simp;omega))))|((with_reducible apply Z9);(simp (disch:=omega) [g0];exact Red.rfl))|((with_reducible apply W3);(simp (disch:=omega) [g0];exact Red.rfl)))
      exact q_again ⟨1, by omega⟩ (by dsimp only; omega) (.inl rfl)
    · repeat (first|(with_reducible first|apply X1|apply X2|apply X5|apply X6|apply X8|apply Y2)|((with_reducible apply e_end);(simp;exact Red.rfl))|((with_reducible apply O1);rfl;(simp (disch:=omega) [g1];exact Red.rfl);exact Red.rfl;(focus (first|(simp;done)|omega|(simp;omega))))|((with_reducible apply Z9);(simp (disch:=omega) [g1];exact Red.rfl))|((with_reducible apply W3);(simp (disch:=omega) [g1];exact Red.rfl)))
      exact q_again ⟨2, by omega⟩ (by dsimp only; omega) (.inl rfl)
    · repeat (first|(with_reducible first|apply X1|apply X2|apply X4|apply X8|apply Y1|apply Y4|apply Y6)|((with_reducible apply e_end);(simp;exact Red.rfl))|((with_reducible apply O1);rfl;(simp (disch:=omega);exact Red.rfl);exact Red.rfl;(focus (first|(simp;done)|omega|(simp;omega))))|((with_reducible apply W3);(simp (disch:=omega);exact Red.rfl)))
      have hg := c_Grow H (a.length + b.length) (by omega) (by omega)
      rw [Int.natCast_add] at hg
      (with_reducible apply e_call); (simp; exact Red.rfl); exact hg
      rintro _ _ ⟨rfl, cs, rfl⟩
      repeat (first|(with_reducible first|apply X1|apply X2|apply X6|apply X8)|((with_reducible apply e_end);(simp;exact Red.rfl))|((with_reducible apply O1);rfl;(simp (disch:=omega);exact Red.rfl);exact Red.rfl;(focus (first|(simp;done)|omega|(simp;omega)))))
      have pa : Plain (a.flatMap Str.av) := by rw [flat_eq]; exact (plain_str a).plain _
      have pb : Plain (b.flatMap Str.av) := by rw [flat_eq]; exact (plain_str b).plain _
      have la : (a.flatMap Str.av).length = a.length * 9 := by rw [flat_eq]; exact (plain_str a).length _
      have lb : (b.flatMap Str.av).length = b.length * 9 := by rw [flat_eq]; exact (plain_str b).length _
      have hida := rd_lt ha
      have hidb := rd_lt hb
      refine e_loop (ι := { k : Nat // k ≤ 2 }) (fun k => [(6, if k.1 = 0 then .slice H.length 0 0 9 false else if k.1 = 1 then .slice (H.length + 1) 0 a.length 9 false else .slice (H.length + 2) 0 (a.length + b.length) 9 false), (25, .slice sid 0 2 1 true), (26, .int .i64 2), (27, .int .i64 k.1)])
        (fun k => H ++ (if k.1 = 0 then [.cells cs true] else if k.1 = 1 then [.dead, .cells (a.flatMap Str.av) true] else [.dead, .dead, .cells (a.flatMap Str.av ++ b.flatMap Str.av) true])) (fun k => 2 - k.1) ⟨0, by omega⟩ ?_ ?_
      · exact .inl rfl
      · rintro ⟨k, hk⟩
        dsimp only
        rcases (by omega : k = 0 ∨ k = 1 ∨ k = 2) with rfl | rfl | rfl
        · simp only [if_true]
          repeat (first|(with_reducible first|apply X1|apply X2|apply X5|apply X6|apply X8|apply Y2)|((with_reducible apply e_end);(simp;exact Red.rfl))|((with_reducible apply O1);rfl;(simp (disch:=omega) [rd_old _ hsid, g0, rd_old _ hida, ha, pa.scal];exact Red.rfl);exact Red.rfl;(focus (first|(simp;done)|omega|(simp;omega))))|((with_reducible apply Z9);(simp (disch:=omega) [rd_old _ hsid, g0, rd_old _ hida, ha, pa.scal];exact Red.rfl)))
          exact q_again ⟨1, by omega⟩ (by dsimp only; omega) (.inl rfl)
        · simp only [if_true, Nat.one_ne_zero, if_false]
          repeat (first|(with_reducible first|apply X1|apply X2|apply X5|apply X6|apply X8|apply Y2)|((with_reducible apply e_end);(simp;exact Red.rfl))|((with_reducible apply O1);rfl;(simp (disch:=omega) [rd_old _ hsid, g1, rd_old _ hidb, hb, pb.scal, la, take_all la];exact Red.rfl);exact Red.rfl;(focus (first|(simp;done)|omega|(simp;omega))))|((with_reducible apply Z9);(simp (disch:=omega) [rd_old _ hsid, g1, rd_old _ hidb, hb, pb.scal, la, take_all la];exact Red.rfl)))
          exact q_again ⟨2, by omega⟩ (by dsimp only; omega) (.inl rfl)
        · simp only [Nat.reduceEqDiff, if_false]
          repeat (first|(with_reducible first|apply X1|apply X2|apply X3|apply X4|apply X8|apply Y1|apply Y4|apply Y6)|((with_reducible apply e_end);(simp;exact Red.rfl))|((with_reducible apply O1);rfl;(simp (disch:=omega);exact Red.rfl);exact Red.rfl;(focus (first|(simp;done)|omega|(simp;omega))))|((with_reducible apply W3);(simp (disch:=omega);exact Red.rfl)))
          have pab : Plain ((a ++ b).flatMap Str.av) := by rw [flat_eq]; exact (plain_str _).plain _
          exact q_post (v' := .slice H.length 0 (a.length + b.length) 9 false) (.inr rfl) (by simp; exact Red.rfl) (le_plain [2] [.cells ((a ++ b).flatMap Str.av) true] (by simp) (by simp) (by simp only [List.mem_singleton]; rintro _ rfl; exact pab.o _) (by simp [sh, AV.ren])) ⟨rfl, rfl⟩
def firstId (b : List Str) : Int := (strAt b 0).id
def lastId (a : List Str) : Int := (strAt a (a.length - 1)).id
open Classical in
noncomputable def joinE (a b : List Str) : Int := if ¬ validL a ∨ ¬ validL b then 10 else if 12 < a.length + b.length then 9 else if firstId b ≤ lastId a then 8 else 0
noncomputable def joinL (a b : List Str) : List Str := if joinE a b = 0 then a ++ b else []
noncomputable def jnR (H : Heap) (a b : List Str) (v : AV) (h' : Heap) : Prop := v = .tuple [.agg [lsV H 9 (joinL a b).length], .int .i64 (joinE a b)] ∧ h' = H ++ lsO (joinL a b).length ((joinL a b).flatMap Str.av)
theorem jn_bad {H : Heap} {a b : List Str} {e : Int} (he : joinE a b = e) (h0 : e ≠ 0) {v : AV} {h' : Heap} (hv : v = .tuple [.agg [.nilslice], .int .i64 e]) (hh : h' = H) : jnR H a b v h' := by
  have : joinL a b = [] := by rw [joinL, if_neg (by rw [he]; exact h0)]
  simp [jnR, this, he, hv, hh, lsV, lsO]
theorem jn_ok {H : Heap} {a b : List Str} (he : joinE a b = 0) (h0 : 0 < a.length) {v : AV} {h' : Heap} (hv : v = .tuple [.agg [.slice H.length 0 (a.length + b.length) 9 false], .int .i64 0]) (hh : h' = H ++ [.cells ((a ++ b).flatMap Str.av) true]) : jnR H a b v h' := by
  have : joinL a b = a ++ b := by rw [joinL, if_pos he]
  have hn : ¬ a.length + b.length = 0 := by omega
  simp only [jnR, this, he, hv, hh, lsV, lsO, if_neg hn, List.length_append, and_self]
theorem rd_cellS {H : Heap} {l : List Str} {id off i c : Nat} (hs : rd H id off (l.length * 9) = some (l.flatMap Str.av)) (hi : i < l.length) (hc : c + 1 ≤ 9) : rd H id (off + i * 9 + c) 1 = some (((strAt l i).av.drop c).take 1) := by
  rw [rd_sub (rd_row Str.av_length hs hi) hc, strAt_eq hi]

theorem sz1 {l : List Str} (hv : validL l) : 1 ≤ l.length ∧ l.length ≤ 12 := hv.1
set_option maxHeartbeats 1000000 in
theorem c_Join (H : Heap) (a b : List Str) (id1 o1 id2 o2 : Nat) (e1 e2 : Bool) (ha : rd H id1 o1 (a.length * 9) = some (a.flatMap Str.av)) (hb : rd H id2 o2 (b.length * 9) = some (b.flatMap Str.av)) (hna : (a.length : Int) < 1000000) (hnb : (b.length : Int) < 1000000) :
    ACalls Try.prog F.track_Join [.agg [.slice id1 o1 a.length 9 e1], .agg [.slice id2 o2 b.length 9 e2]] H (jnR H a b) := by
  refine acalls_of ok_track_Join rfl fun hcl => ?_
  unfold ac_track_Join
  simp only [argsT, Nat.zero_add, Nat.reduceAdd]
  have hida := rd_lt ha
  have hidb := rd_lt hb
  repeat (first|(with_reducible first|apply X1|apply X2|apply X6|apply X8)|((with_reducible apply e_end);(simp;exact Red.rfl))|((with_reducible apply O1);rfl;(simp (disch:=omega);exact Red.rfl);exact Red.rfl;(focus (first|(simp;done)|omega|(simp;omega)))))
  refine e_loop (ι := { k : Nat // k ≤ 2 ∧ (1 ≤ k → validL a) ∧ (2 ≤ k → validL b) }) (fun k => [(2, .ptr H.length 0), (3, .ptr (H.length + 1) 0), (4, .ptr (H.length + 2) 0), (11, .agg [.slice id1 o1 a.length 9 e1, .slice id2 o2 b.length 9 e2]), (12, .int .i64 k.1)])
    (fun k => H ++ [.cells [.slice id1 o1 a.length 9 e1] true, .cells [.slice id2 o2 b.length 9 e2] true, .cells [.nilslice] true]) (fun k => 2 - k.1) ⟨0, by omega, by omega, by omega⟩ ?_ ?_
  · exact .inl rfl
  · rintro ⟨k, hk, hk1, hk2⟩
    dsimp only
    rcases (by omega : k = 0 ∨ k = 1 ∨ k = 2) with rfl | rfl | rfl
    · repeat (first|(with_reducible first|apply X1|apply X2|apply X5|apply X6|apply X8)|((with_reducible apply e_end);(simp;exact Red.rfl))|((first|((with_reducible apply O1);rfl)|((with_reducible apply O2);rfl));(simp (disch:=omega);exact Red.rfl);exact Red.rfl;(focus (first|(simp;done)|omega|(simp;omega))))|((with_reducible apply Z9);(simp (disch:=omega);exact Red.rfl)))
      (with_reducible apply e_call); (simp; exact Red.rfl); exact c_Check _ a id1 o1 e1 (by rw [rd_old _ hida]; exact ha) hna
      rintro _ _ ⟨rfl, e, rfl, he⟩
      rcases he with ⟨hv, rfl⟩ | ⟨hv, rfl⟩
      · repeat (first|(with_reducible first|apply X1|apply X2|apply X5|apply X8|apply Y2)|((with_reducible apply e_end);(simp;exact Red.rfl))|((with_reducible apply O1);rfl;(simp (disch:=omega);exact Red.rfl);exact Red.rfl;(focus (first|(simp;done)|omega|(simp;omega))))|((with_reducible apply W3);(simp (disch:=omega);exact Red.rfl)))
        exact q_again ⟨1, by omega, fun _ => hv, by omega⟩ (by dsimp only; omega) (.inr <| le_take (G := [_, _, _]) (by simp [hida, hidb]; omega) (by simp [hida, hidb, Red]; omega))
      · repeat (first|(with_reducible first|apply X1|apply X2|apply X3|apply X8|apply X9|apply Y3|apply Y5)|((with_reducible apply e_end);(simp;exact Red.rfl))|((first|((with_reducible apply O1);rfl)|((with_reducible apply O2);rfl));(simp (disch:=omega);exact Red.rfl);exact Red.rfl;(focus (first|(simp;done)|omega|(simp;omega))))|((with_reducible apply Z9);(simp (disch:=omega);exact Red.rfl)))
        refine q_drop (.inr rfl) (by simp; exact Red.rfl) (by simp) (jn_bad (e := 10) (by rw [joinE, if_pos (.inl hv)]) (by decide) rfl rfl)
    · repeat (first|(with_reducible first|apply X1|apply X2|apply X5|apply X6|apply X8)|((with_reducible apply e_end);(simp;exact Red.rfl))|((first|((with_reducible apply O1);rfl)|((with_reducible apply O2);rfl));(simp (disch:=omega);exact Red.rfl);exact Red.rfl;(focus (first|(simp;done)|omega|(simp;omega))))|((with_reducible apply Z9);(simp (disch:=omega);exact Red.rfl)))
      (with_reducible apply e_call); (simp; exact Red.rfl); exact c_Check _ b id2 o2 e2 (by rw [rd_old _ hidb]; exact hb) hnb
      rintro _ _ ⟨rfl, e, rfl, he⟩
      rcases he with ⟨hv, rfl⟩ | ⟨hv, rfl⟩
      · repeat (first|(with_reducible first|apply X1|apply X2|apply X5|apply X8|apply Y2)|((with_reducible apply e_end);(simp;exact Red.rfl))|((with_reducible apply O1);rfl;(simp (disch:=omega);exact Red.rfl);exact Red.rfl;(focus (first|(simp;done)|omega|(simp;omega))))|((with_reducible apply W3);(simp (disch:=omega);exact Red.rfl)))
        exact q_again ⟨2, by omega, fun _ => hk1 (by omega), fun _ => hv⟩ (by dsimp only; omega) (.inr <| le_take (G := [_, _, _]) (by simp [hida, hidb]; omega) (by simp [hida, hidb, Red]; omega))
      · repeat (first|(with_reducible first|apply X1|apply X2|apply X3|apply X8|apply X9|apply Y3|apply Y5)|((with_reducible apply e_end);(simp;exact Red.rfl))|((first|((with_reducible apply O1);rfl)|((with_reducible apply O2);rfl));(simp (disch:=omega);exact Red.rfl);exact Red.rfl;(focus (first|(simp;done)|omega|(simp;omega))))|((with_reducible apply Z9);(simp (disch:=omega);exact Red.rfl)))
        refine q_drop (.inr rfl) (by simp; exact Red.rfl) (by simp) (jn_bad (e := 10) (by rw [joinE, if_pos (.inr hv)]) (by decide) rfl rfl)
    · have hva := hk1 (by omega)
      have hvb := hk2 (by omega)
      have hE : ¬ (¬ validL a ∨ ¬ validL b) := by simp [hva, hvb]
      have ka := sz1 hva
      have kb := sz1 hvb
      by_cases h12 : 12 < a.length + b.length
      · have h12i : (12 : Int) < (a.length : Int) + b.length := by omega
        repeat (first|(with_reducible first|apply X1|apply X2|apply X3|apply X4|apply X8|apply X9|apply Y1|apply Y4|apply Y6)|((with_reducible apply e_end);(simp;exact Red.rfl))|((first|((with_reducible apply O1);rfl)|((with_reducible apply O2);rfl));(simp (disch:=omega) [h12i];exact Red.rfl);exact Red.rfl;(focus (first|(simp;done)|omega|(simp;omega))))|((with_reducible apply Z9);(simp (disch:=omega) [h12i];exact Red.rfl))|((with_reducible apply W3);(simp (disch:=omega) [h12i];exact Red.rfl)))
        refine q_drop (.inr rfl) (by simp; exact Red.rfl) (by simp) (jn_bad (e := 9) (by rw [joinE, if_neg hE, if_pos h12]) (by decide) rfl rfl)
      · have h12i : ¬ (12 : Int) < (a.length : Int) + b.length := by omega
        have hx : rd H id1 (o1 + (a.length - 1) * 9) 1 = some [.int .i64 (lastId a)] := rd_cellS (c := 0) ha (show a.length - 1 < a.length by omega) (by decide)
        have hy : rd H id2 o2 1 = some [.int .i64 (firstId b)] := by
          have h : rd H id2 (o2 + 0 * 9 + 0) 1 = some [.int .i64 (firstId b)] := rd_cellS (c := 0) hb (show 0 < b.length by omega) (by decide)
          simpa only [Nat.zero_mul, Nat.add_zero] using h
        have hz : ((a.length : Int) - 1).toNat = a.length - 1 := by omega
        by_cases hid : firstId b ≤ lastId a
        · repeat (first|(with_reducible first|apply X1|apply X2|apply X3|apply X4|apply X5|apply X8|apply X9|apply Y1|apply Y4|apply Y6|apply Y9)|((with_reducible first|apply e_end|apply d_end);(simp;exact Red.rfl))|((first|((with_reducible apply O1);rfl)|((with_reducible apply O2);rfl)|((with_reducible apply P1);rfl)|((with_reducible apply P2);rfl));(simp (disch:=omega) [h12i, rd_old _ hida, rd_old _ hidb, hx, hy, hz, hid];exact Red.rfl);exact Red.rfl;(focus (first|(simp;done)|omega|(simp;omega))))|((with_reducible apply Z9);(simp (disch:=omega) [h12i, rd_old _ hida, rd_old _ hidb, hx, hy, hz, hid];exact Red.rfl))|((with_reducible apply W3);(simp (disch:=omega) [h12i, rd_old _ hida, rd_old _ hidb, hx, hy, hz, hid];exact Red.rfl)))
          refine q_drop (.inr rfl) (by simp; exact Red.rfl) (by simp) (jn_bad (e := 8) (by rw [joinE, if_neg hE, if_neg h12, if_pos hid]) (by decide) rfl rfl)
        · repeat (first|(with_reducible first|apply X1|apply X2|apply X4|apply X5|apply X8|apply Y1|apply Y4|apply Y6|apply Y9)|((with_reducible first|apply e_end|apply d_end);(simp;exact Red.rfl))|((first|((with_reducible apply O1);rfl)|((with_reducible apply P1);rfl)|((with_reducible apply P2);rfl));(simp (disch:=omega) [h12i, rd_old _ hida, rd_old _ hidb, hx, hy, hz, hid];exact Red.rfl);exact Red.rfl;(focus (first|(simp;done)|omega|(simp;omega))))|((with_reducible apply W3);(simp (disch:=omega) [h12i, rd_old _ hida, rd_old _ hidb, hx, hy, hz, hid];exact Red.rfl)))
          (with_reducible apply e_call); (simp; exact Red.rfl); exact c_Concat _ a b id1 o1 id2 o2 _ e1 e2 (by rw [rd_old _ hida]; exact ha) (by rw [rd_old _ hidb]; exact hb) (by simp) (by omega) (by omega) (by omega)
          rintro _ _ ⟨rfl, rfl⟩
          repeat (first|(with_reducible first|apply X3|apply X8)|((with_reducible apply e_end);(simp;exact Red.rfl))|((first|((with_reducible apply O1);rfl)|((with_reducible apply O2);rfl));(simp (disch:=omega);exact Red.rfl);exact Red.rfl;(focus (first|(simp;done)|omega|(simp;omega)))))
          have pab : Plain ((a ++ b).flatMap Str.av) := by rw [flat_eq]; exact (plain_str _).plain _
          refine q_post (v' := .tuple [.agg [.slice H.length 0 (a.length + b.length) 9 false], .int .i64 0]) (.inr rfl) (by simp; exact Red.rfl) (le_plain [4] [.cells ((a ++ b).flatMap Str.av) true] (by simp) (by simp) (by simp only [List.mem_singleton]; rintro _ rfl; exact pab.o _) (by simp [sh, AV.ren, renL])) (jn_ok (by rw [joinE, if_neg hE, if_neg h12, if_neg hid]) (by omega) rfl rfl)
end Go.Proofs
