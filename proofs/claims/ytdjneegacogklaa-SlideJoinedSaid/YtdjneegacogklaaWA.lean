/- Several texts as one. -/
import Derived.Test.YtdjneegacogklaaSC
import Derived.Test.YtdjneegacogklaaXA
import Derived.Test.YtdjneegacogklaaDD
import Derived.Test.YtdjneegacogklaaTB
import Derived.Test.YtdjneegacogklaaRunSlideAlive
/- The reference's speeds. -/
namespace Go.Proofs
open Go.Abs
attribute [local simp] AOp.den AOpd.ev lk cellsOf rd_new rd_new0 rd_zero rd_succ wr_new wr_new0 wr_zero wr_succ splice fillA binA scal sliceCells List.length_append argsT AV.sc scL AObj.sc resV getAll AR.get AOp.slots opdSlots opdsSlots partSlots eqAt at_new0 at_new set_new0 set_new wrap64
set_option linter.unusedSimpArgs false
set_option linter.unusedVariables false
end Go.Proofs
/- The reference's heads. -/
namespace Go.Proofs
open Go.Abs
attribute [local simp] AOp.den AOpd.ev lk cellsOf rd_new rd_new0 rd_zero rd_succ wr_new wr_new0 wr_zero wr_succ splice fillA binA scal sliceCells List.length_append argsT AV.sc scL AObj.sc resV getAll AR.get AOp.slots opdSlots opdsSlots partSlots eqAt at_new0 at_new set_new0 set_new wrap64
set_option linter.unusedSimpArgs false
set_option linter.unusedVariables false
end Go.Proofs
/- What the reference tells of sleds. -/
namespace Go.Proofs
open Go.Abs
attribute [local simp] AOp.den AOpd.ev lk cellsOf rd_new rd_new0 rd_zero rd_succ wr_new wr_new0 wr_zero wr_succ splice fillA binA scal sliceCells List.length_append argsT AV.sc scL AObj.sc resV getAll AR.get AOp.slots opdSlots opdsSlots partSlots eqAt at_new0 at_new set_new0 set_new wrap64
set_option linter.unusedSimpArgs false
set_option linter.unusedVariables false
theorem sav_eq (s : Sl) : s.av = [.int .u8 s.c, .int .i64 s.s1, .int .i64 s.s2, .int .i64 s.r1, .int .i64 s.r2, .int .i64 s.d1, .int .i64 s.d2, .int .i64 s.w1, .int .i64 s.w2, .int .i64 s.t1, .int .i64 s.t2] := rfl
end Go.Proofs
/- The law SlideHeads: errors of the program and of the reference. -/
namespace Go.Proofs
open Go.Abs
attribute [local simp] AOp.den AOpd.ev lk cellsOf rd_new rd_new0 rd_zero rd_succ wr_new wr_new0 wr_zero wr_succ splice fillA binA scal sliceCells List.length_append argsT AV.sc scL AObj.sc resV getAll AR.get AOp.slots opdSlots opdsSlots partSlots eqAt at_new0 at_new set_new0 set_new wrap64
set_option linter.unusedSimpArgs false
set_option linter.unusedVariables false
open Classical in
noncomputable def errS (l : List Str) (s : Sl) : Int := if ¬ validL l then 10 else if ¬ s.ok then 30 else 0
end Go.Proofs
/- The law SlideSafes: whether a sled is safe, by the reference. -/
namespace Go.Proofs
open Go.Abs
attribute [local simp] AOp.den AOpd.ev lk cellsOf rd_new rd_new0 rd_zero rd_succ wr_new wr_new0 wr_zero wr_succ splice fillA binA scal sliceCells List.length_append argsT AV.sc scL AObj.sc resV getAll AR.get AOp.slots opdSlots opdsSlots partSlots eqAt at_new0 at_new set_new0 set_new wrap64
set_option linter.unusedSimpArgs false
set_option linter.unusedVariables false
theorem hd_le {l : List Str} {s : Sl} (hv : validL l) (hs : s.ok) {i : Nat} (hi : i ≤ l.length) : hd false s l i ≤ hd true s l i := by
  have h := cH_in (us := []) hv hs hi
  omega
theorem wi_le {l : List Str} {s : Sl} (hv : validL l) (hs : s.ok) {i : Nat} (hi : i < l.length) : wiF (hd false s l) i ≤ wiF (hd true s l) i := by
  have h1 := hd_le hv hs (show i ≤ l.length by omega)
  have h2 := hd_le hv hs (show i + 1 ≤ l.length by omega)
  simp only [wiF]; omega
theorem thr_le {l : List Str} {s : Sl} (hv : validL l) (hs : s.ok) {i : Nat} (hi : i < l.length) (h : thrB false s l i = true) : thrB true s l i = true := by
  simp only [thrB, decide_eq_true_eq] at h ⊢
  refine ⟨h.1, ?_⟩
  have hR := curve_rad hv hi h.1
  have w := wi_bd hv hs false hi
  have t := hs.2.2.2.2.2
  have := ht_mono w.1 (wi_le hv hs hi) (show 0 < (strAt l i).rLo by omega) hR.1 (show s.t1 ≤ s.t2 by omega)
  have h2 := h.2
  simp only [up, dn, if_true] at h2 ⊢
  simp only [Bool.false_eq_true, if_false] at h2
  omega
end Go.Proofs
/- Two runs as one. -/
namespace Go.Proofs
open Go.Abs
attribute [local simp] AOp.den AOpd.ev lk cellsOf rd_new rd_new0 rd_zero rd_succ wr_new wr_new0 wr_zero wr_succ splice fillA binA scal sliceCells List.length_append argsT AV.sc scL AObj.sc resV getAll AR.get AOp.slots opdSlots opdsSlots partSlots eqAt at_new0 at_new set_new0 set_new wrap64
set_option linter.unusedSimpArgs false
set_option linter.unusedVariables false
theorem rd_cell {H : Heap} {l : List Str} {id off i c : Nat} (hs : rd H id off (l.length * 9) = some (l.flatMap Str.av)) (hi : i < l.length) (hc : c + 1 ≤ 9) : rd H id (off + i * 9 + c) 1 = some (((strAt l i).av.drop c).take 1) := by
  rw [rd_sub (rd_row Str.av_length hs hi) hc, strAt_eq hi]

theorem c_Grow (H : Heap) (m : Nat) (h0 : 0 < m) (hm : m ≤ 1000) : ACalls Try.prog F.slices_Grow_api_Stretch_api_Stretch [.nilslice, .int .i64 m] H
    (fun v h' => v = .slice H.length 0 0 9 false ∧ ∃ cs, h' = H ++ [.cells cs true]) := by
  refine acalls_of ok_slices_Grow_api_Stretch_api_Stretch rfl fun hcl => ?_
  unfold ac_slices_Grow_api_Stretch_api_Stretch
  simp only [argsT, Nat.zero_add, Nat.reduceAdd]
  have h1 : (0 : Int) < m := by omega
  repeat (first|(with_reducible first|apply X1|apply X2|apply X3|apply X5|apply X8)|((with_reducible apply e_end);(simp;exact Red.rfl))|((with_reducible apply O1);rfl;(simp (disch:=omega) [h1, h0];exact Red.rfl);exact Red.rfl;(focus (first|(simp;done)|omega|(simp;omega))))|((with_reducible apply Z9);(simp (disch:=omega) [h1, h0];exact Red.rfl))|((with_reducible apply W3);(simp (disch:=omega) [h1, h0];exact Red.rfl)))
  exact q_stay (.inr rfl) (by simp; exact Red.rfl) ⟨rfl, _, rfl⟩
theorem c_Concat (H : Heap) (a b : List Str) (id1 o1 id2 o2 sid : Nat) (e1 e2 : Bool) (ha : rd H id1 o1 (a.length * 9) = some (a.flatMap Str.av)) (hb : rd H id2 o2 (b.length * 9) = some (b.flatMap Str.av))
    (hs : rd H sid 0 2 = some [.slice id1 o1 a.length 9 e1, .slice id2 o2 b.length 9 e2]) (h0 : 0 < a.length) (h1 : a.length ≤ 100) (h2 : b.length ≤ 100) :
    ACalls Try.prog F.slices_Concat_api_Stretch_api_Stretch [.slice sid 0 2 1 true] H (fun v h' => v = .slice H.length 0 (a.length + b.length) 9 false ∧ h' = H ++ [.cells ((a ++ b).flatMap Str.av) true]) := by
  refine acalls_of ok_slices_Concat_api_Stretch_api_Stretch rfl fun hcl => ?_
  unfold ac_slices_Concat_api_Stretch_api_Stretch
  simp only [argsT, Nat.zero_add, Nat.reduceAdd]
  have hsid := rd_lt hs
  have g0 : rd H sid 0 1 = some [.slice id1 o1 a.length 9 e1] := by
    have := rd_sub hs (show 0 + 1 ≤ 2 by omega)
    simpa using this
  have g1 : rd H sid 1 1 = some [.slice id2 o2 b.length 9 e2] := by
    have := rd_sub hs (show 1 + 1 ≤ 2 by omega)
    simpa using this
  repeat (first|(with_reducible first|apply X1|apply X2|apply X6|apply X8)|((with_reducible apply e_end);(simp;exact Red.rfl))|((with_reducible apply O1);rfl;(simp (disch:=omega);exact Red.rfl);exact Red.rfl;(focus (first|(simp;done)|omega|(simp;omega)))))
  refine e_loop (ι := { k : Nat // k ≤ 2 }) (fun k => [(0, .slice sid 0 2 1 true), (3, .int .i64 (if k.1 = 0 then 0 else if k.1 = 1 then (a.length : Int) else (a.length : Int) + b.length)), (9, .slice sid 0 2 1 true), (10, .int .i64 2), (11, .int .i64 k.1)]) (fun _ => H) (fun k => 2 - k.1) ⟨0, by omega⟩ ?_ ?_
  · exact .inl rfl
  · rintro ⟨k, hk⟩
    dsimp only
    rcases (by omega : k = 0 ∨ k = 1 ∨ k = 2) with rfl | rfl | rfl
    · repeat (first|(with_reducible first|apply X1|apply X2|apply X5|apply X6|apply X8|apply Y2)|((with_reducible apply e_end);(simp;exact Red.rfl))|((with_reducible apply O1);rfl;(simp (disch:=omega) [g0];exact Red.rfl);exact Red.rfl;(focus (first|(simp;done)|omega|(simp;omega))))|((with_reducible apply Z9);(simp (disch:=omega) [g0];exact Red.rfl))|((with_reducible apply W3);(simp (disch:=omega) [g0];exact Red.rfl)))
      exact q_again ⟨1, by omega⟩ (by dsimp only; omega) (.inl rfl)
    · repeat (first|(with_reducible first|apply X1|apply X2|apply X5|apply X6|apply X8|apply Y2)|((with_reducible apply e_end);(simp;exact Red.rfl))|((with_reducible apply O1);rfl;(simp (disch:=omega) [g1];exact Red.rfl);exact Red.rfl;(focus (first|(simp;done)|omega|(simp;omega))))|((with_reducible apply Z9);(simp (disch:=omega) [g1];exact Red.rfl))|((with_reducible apply W3);(simp (disch:=omega) [g1];exact Red.rfl)))
      exact q_again ⟨2, by omega⟩ (by dsimp only; omega) (.inl rfl)
    · repeat (first|(with_reducible first|apply X1|apply X2|apply X4|apply X8|apply Y1|apply Y4|apply Y6)|((with_reducible apply e_end);(simp;exact Red.rfl))|((with_reducible apply O1);rfl;(simp (disch:=omega);exact Red.rfl);exact Red.rfl;(focus (first|(simp;done)|omega|(simp;omega))))|((with_reducible apply W3);(simp (disch:=omega);exact Red.rfl)))
      have hg := c_Grow H (a.length + b.length) (by omega) (by omega)
      rw [Int.natCast_add] at hg
      (with_reducible apply e_call); (simp; exact Red.rfl); exact hg
      rintro _ _ ⟨rfl, cs, rfl⟩
      repeat (first|(with_reducible first|apply X1|apply X2|apply X6|apply X8)|((with_reducible apply e_end);(simp;exact Red.rfl))|((with_reducible apply O1);rfl;(simp (disch:=omega);exact Red.rfl);exact Red.rfl;(focus (first|(simp;done)|omega|(simp;omega)))))
      have pa : Plain (a.flatMap Str.av) := by rw [flat_eq]; exact (plain_str a).plain _
      have pb : Plain (b.flatMap Str.av) := by rw [flat_eq]; exact (plain_str b).plain _
      have la : (a.flatMap Str.av).length = a.length * 9 := by rw [flat_eq]; exact (plain_str a).length _
      have lb : (b.flatMap Str.av).length = b.length * 9 := by rw [flat_eq]; exact (plain_str b).length _
      have hida := rd_lt ha
      have hidb := rd_lt hb
      refine e_loop (ι := { k : Nat // k ≤ 2 }) (fun k => [(6, if k.1 = 0 then .slice H.length 0 0 9 false else if k.1 = 1 then .slice (H.length + 1) 0 a.length 9 false else .slice (H.length + 2) 0 (a.length + b.length) 9 false), (25, .slice sid 0 2 1 true), (26, .int .i64 2), (27, .int .i64 k.1)])
        (fun k => H ++ (if k.1 = 0 then [.cells cs true] else if k.1 = 1 then [.dead, .cells (a.flatMap Str.av) true] else [.dead, .dead, .cells (a.flatMap Str.av ++ b.flatMap Str.av) true])) (fun k => 2 - k.1) ⟨0, by omega⟩ ?_ ?_
      · exact .inl rfl
      · rintro ⟨k, hk⟩
        dsimp only
        rcases (by omega : k = 0 ∨ k = 1 ∨ k = 2) with rfl | rfl | rfl
        · simp only [if_true]
          repeat (first|(with_reducible first|apply X1|apply X2|apply X5|apply X6|apply X8|apply Y2)|((with_reducible apply e_end);(simp;exact Red.rfl))|((with_reducible apply O1);rfl;(simp (disch:=omega) [rd_old _ hsid, g0, rd_old _ hida, ha, pa.scal];exact Red.rfl);exact Red.rfl;(focus (first|(simp;done)|omega|(simp;omega))))|((with_reducible apply Z9);(simp (disch:=omega) [rd_old _ hsid, g0, rd_old _ hida, ha, pa.scal];exact Red.rfl)))
          exact q_again ⟨1, by omega⟩ (by dsimp only; omega) (.inl rfl)
        · simp only [if_true, Nat.one_ne_zero, if_false]
          repeat (first|(with_reducible first|apply X1|apply X2|apply X5|apply X6|apply X8|apply Y2)|((with_reducible apply e_end);(simp;exact Red.rfl))|((with_reducible apply O1);rfl;(simp (disch:=omega) [rd_old _ hsid, g1, rd_old _ hidb, hb, pb.scal, la, take_all la];exact Red.rfl);exact Red.rfl;(focus (first|(simp;done)|omega|(simp;omega))))|((with_reducible apply Z9);(simp (disch:=omega) [rd_old _ hsid, g1, rd_old _ hidb, hb, pb.scal, la, take_all la];exact Red.rfl)))
          exact q_again ⟨2, by omega⟩ (by dsimp only; omega) (.inl rfl)
        · simp only [Nat.reduceEqDiff, if_false]
          repeat (first|(with_reducible first|apply X1|apply X2|apply X3|apply X4|apply X8|apply Y1|apply Y4|apply Y6)|((with_reducible apply e_end);(simp;exact Red.rfl))|((with_reducible apply O1);rfl;(simp (disch:=omega);exact Red.rfl);exact Red.rfl;(focus (first|(simp;done)|omega|(simp;omega))))|((with_reducible apply W3);(simp (disch:=omega);exact Red.rfl)))
          have pab : Plain ((a ++ b).flatMap Str.av) := by rw [flat_eq]; exact (plain_str _).plain _
          exact q_post (v' := .slice H.length 0 (a.length + b.length) 9 false) (.inr rfl) (by simp; exact Red.rfl) (le_plain [2] [.cells ((a ++ b).flatMap Str.av) true] (by simp) (by simp) (by simp only [List.mem_singleton]; rintro _ rfl; exact pab.o _) (by simp [sh, AV.ren])) ⟨rfl, rfl⟩
def firstId (b : List Str) : Int := (strAt b 0).id
def lastId (a : List Str) : Int := (strAt a (a.length - 1)).id
open Classical in
noncomputable def joinE (a b : List Str) : Int := if ¬ validL a ∨ ¬ validL b then 10 else if 12 < a.length + b.length then 9 else if firstId b ≤ lastId a then 8 else 0
noncomputable def joinL (a b : List Str) : List Str := if joinE a b = 0 then a ++ b else []
noncomputable def jnR (H : Heap) (a b : List Str) (v : AV) (h' : Heap) : Prop := v = .tuple [.agg [lsV H 9 (joinL a b).length], .int .i64 (joinE a b)] ∧ h' = H ++ lsO (joinL a b).length ((joinL a b).flatMap Str.av)
theorem jn_bad {H : Heap} {a b : List Str} {e : Int} (he : joinE a b = e) (h0 : e ≠ 0) {v : AV} {h' : Heap} (hv : v = .tuple [.agg [.nilslice], .int .i64 e]) (hh : h' = H) : jnR H a b v h' := by
  have : joinL a b = [] := by rw [joinL, if_neg (by rw [he]; exact h0)]
  simp [jnR, this, he, hv, hh, lsV, lsO]
theorem jn_ok {H : Heap} {a b : List Str} (he : joinE a b = 0) (h0 : 0 < a.length) {v : AV} {h' : Heap} (hv : v = .tuple [.agg [.slice H.length 0 (a.length + b.length) 9 false], .int .i64 0]) (hh : h' = H ++ [.cells ((a ++ b).flatMap Str.av) true]) : jnR H a b v h' := by
  have : joinL a b = a ++ b := by rw [joinL, if_pos he]
  have hn : ¬ a.length + b.length = 0 := by omega
  simp only [jnR, this, he, hv, hh, lsV, lsO, if_neg hn, List.length_append, and_self]
theorem sz1 {l : List Str} (hv : validL l) : 1 ≤ l.length ∧ l.length ≤ 12 := hv.1
set_option maxHeartbeats 1000000 in
theorem c_Join (H : Heap) (a b : List Str) (id1 o1 id2 o2 : Nat) (e1 e2 : Bool) (ha : rd H id1 o1 (a.length * 9) = some (a.flatMap Str.av)) (hb : rd H id2 o2 (b.length * 9) = some (b.flatMap Str.av)) (hna : (a.length : Int) < 1000000) (hnb : (b.length : Int) < 1000000) :
    ACalls Try.prog F.track_Join [.agg [.slice id1 o1 a.length 9 e1], .agg [.slice id2 o2 b.length 9 e2]] H (jnR H a b) := by
  refine acalls_of ok_track_Join rfl fun hcl => ?_
  unfold ac_track_Join
  simp only [argsT, Nat.zero_add, Nat.reduceAdd]
  have hida := rd_lt ha
  have hidb := rd_lt hb
  repeat (first|(with_reducible first|apply X1|apply X2|apply X6|apply X8)|((with_reducible apply e_end);(simp;exact Red.rfl))|((with_reducible apply O1);rfl;(simp (disch:=omega);exact Red.rfl);exact Red.rfl;(focus (first|(simp;done)|omega|(simp;omega)))))
  refine e_loop (ι := { k : Nat // k ≤ 2 ∧ (1 ≤ k → validL a) ∧ (2 ≤ k → validL b) }) (fun k => [(2, .ptr H.length 0), (3, .ptr (H.length + 1) 0), (4, .ptr (H.length + 2) 0), (11, .agg [.slice id1 o1 a.length 9 e1, .slice id2 o2 b.length 9 e2]), (12, .int .i64 k.1)])
    (fun k => H ++ [.cells [.slice id1 o1 a.length 9 e1] true, .cells [.slice id2 o2 b.length 9 e2] true, .cells [.nilslice] true]) (fun k => 2 - k.1) ⟨0, by omega, by omega, by omega⟩ ?_ ?_
  · exact .inl rfl
  · rintro ⟨k, hk, hk1, hk2⟩
    dsimp only
    rcases (by omega : k = 0 ∨ k = 1 ∨ k = 2) with rfl | rfl | rfl
    · repeat (first|(with_reducible first|apply X1|apply X2|apply X5|apply X6|apply X8)|((with_reducible apply e_end);(simp;exact Red.rfl))|((first|((with_reducible apply O1);rfl)|((with_reducible apply O2);rfl));(simp (disch:=omega);exact Red.rfl);exact Red.rfl;(focus (first|(simp;done)|omega|(simp;omega))))|((with_reducible apply Z9);(simp (disch:=omega);exact Red.rfl)))
      (with_reducible apply e_call); (simp; exact Red.rfl); exact c_Check _ a id1 o1 e1 (by rw [rd_old _ hida]; exact ha) hna
      rintro _ _ ⟨rfl, e, rfl, he⟩
      rcases he with ⟨hv, rfl⟩ | ⟨hv, rfl⟩
      · repeat (first|(with_reducible first|apply X1|apply X2|apply X5|apply X8|apply Y2)|((with_reducible apply e_end);(simp;exact Red.rfl))|((with_reducible apply O1);rfl;(simp (disch:=omega);exact Red.rfl);exact Red.rfl;(focus (first|(simp;done)|omega|(simp;omega))))|((with_reducible apply W3);(simp (disch:=omega);exact Red.rfl)))
        exact q_again ⟨1, by omega, fun _ => hv, by omega⟩ (by dsimp only; omega) (.inr <| le_take (G := [_, _, _]) (by simp [hida, hidb]; omega) (by simp [hida, hidb, Red]; omega))
      · repeat (first|(with_reducible first|apply X1|apply X2|apply X3|apply X8|apply X9|apply Y3|apply Y5)|((with_reducible apply e_end);(simp;exact Red.rfl))|((first|((with_reducible apply O1);rfl)|((with_reducible apply O2);rfl));(simp (disch:=omega);exact Red.rfl);exact Red.rfl;(focus (first|(simp;done)|omega|(simp;omega))))|((with_reducible apply Z9);(simp (disch:=omega);exact Red.rfl)))
        refine q_drop (.inr rfl) (by simp; exact Red.rfl) (by simp) (jn_bad (e := 10) (by rw [joinE, if_pos (.inl hv)]) (by decide) rfl rfl)
    · repeat (first|(with_reducible first|apply X1|apply X2|apply X5|apply X6|apply X8)|((with_reducible apply e_end);(simp;exact Red.rfl))|((first|((with_reducible apply O1);rfl)|((with_reducible apply O2);rfl));(simp (disch:=omega);exact Red.rfl);exact Red.rfl;(focus (first|(simp;done)|omega|(simp;omega))))|((with_reducible apply Z9);(simp (disch:=omega);exact Red.rfl)))
      (with_reducible apply e_call); (simp; exact Red.rfl); exact c_Check _ b id2 o2 e2 (by rw [rd_old _ hidb]; exact hb) hnb
      rintro _ _ ⟨rfl, e, rfl, he⟩
      rcases he with ⟨hv, rfl⟩ | ⟨hv, rfl⟩
      · repeat (first|(with_reducible first|apply X1|apply X2|apply X5|apply X8|apply Y2)|((with_reducible apply e_end);(simp;exact Red.rfl))|((with_reducible apply O1);rfl;(simp (disch:=omega);exact Red.rfl);exact Red.rfl;(focus (first|(simp;done)|omega|(simp;omega))))|((with_reducible apply W3);(simp (disch:=omega);exact Red.rfl)))
        exact q_again ⟨2, by omega, fun _ => hk1 (by omega), fun _ => hv⟩ (by dsimp only; omega) (.inr <| le_take (G := [_, _, _]) (by simp [hida, hidb]; omega) (by simp [hida, hidb, Red]; omega))
      · repeat (first|(with_reducible first|apply X1|apply X2|apply X3|apply X8|apply X9|apply Y3|apply Y5)|((with_reducible apply e_end);(simp;exact Red.rfl))|((first|((with_reducible apply O1);rfl)|((with_reducible apply O2);rfl));(simp (disch:=omega);exact Red.rfl);exact Red.rfl;(focus (first|(simp;done)|omega|(simp;omega))))|((with_reducible apply Z9);(simp (disch:=omega);exact Red.rfl)))
        refine q_drop (.inr rfl) (by simp; exact Red.rfl) (by simp) (jn_bad (e := 10) (by rw [joinE, if_pos (.inr hv)]) (by decide) rfl rfl)
    · have hva := hk1 (by omega)
      have hvb := hk2 (by omega)
      have hE : ¬ (¬ validL a ∨ ¬ validL b) := by simp [hva, hvb]
      have ka := sz1 hva
      have kb := sz1 hvb
      by_cases h12 : 12 < a.length + b.length
      · have h12i : (12 : Int) < (a.length : Int) + b.length := by omega
        repeat (first|(with_reducible first|apply X1|apply X2|apply X3|apply X4|apply X8|apply X9|apply Y1|apply Y4|apply Y6)|((with_reducible apply e_end);(simp;exact Red.rfl))|((first|((with_reducible apply O1);rfl)|((with_reducible apply O2);rfl));(simp (disch:=omega) [h12i];exact Red.rfl);exact Red.rfl;(focus (first|(simp;done)|omega|(simp;omega))))|((with_reducible apply Z9);(simp (disch:=omega) [h12i];exact Red.rfl))|((with_reducible apply W3);(simp (disch:=omega) [h12i];exact Red.rfl)))
        refine q_drop (.inr rfl) (by simp; exact Red.rfl) (by simp) (jn_bad (e := 9) (by rw [joinE, if_neg hE, if_pos h12]) (by decide) rfl rfl)
      · have h12i : ¬ (12 : Int) < (a.length : Int) + b.length := by omega
        have hx : rd H id1 (o1 + (a.length - 1) * 9) 1 = some [.int .i64 (lastId a)] := rd_cell (c := 0) ha (show a.length - 1 < a.length by omega) (by decide)
        have hy : rd H id2 o2 1 = some [.int .i64 (firstId b)] := by
          have h : rd H id2 (o2 + 0 * 9 + 0) 1 = some [.int .i64 (firstId b)] := rd_cell (c := 0) hb (show 0 < b.length by omega) (by decide)
          simpa only [Nat.zero_mul, Nat.add_zero] using h
        have hz : ((a.length : Int) - 1).toNat = a.length - 1 := by omega
        by_cases hid : firstId b ≤ lastId a
        · repeat (first|(with_reducible first|apply X1|apply X2|apply X3|apply X4|apply X5|apply X8|apply X9|apply Y1|apply Y4|apply Y6|apply Y9)|((with_reducible first|apply e_end|apply d_end);(simp;exact Red.rfl))|((first|((with_reducible apply O1);rfl)|((with_reducible apply O2);rfl)|((with_reducible apply P1);rfl)|((with_reducible apply P2);rfl));(simp (disch:=omega) [h12i, rd_old _ hida, rd_old _ hidb, hx, hy, hz, hid];exact Red.rfl);exact Red.rfl;(focus (first|(simp;done)|omega|(simp;omega))))|((with_reducible apply Z9);(simp (disch:=omega) [h12i, rd_old _ hida, rd_old _ hidb, hx, hy, hz, hid];exact Red.rfl))|((with_reducible apply W3);(simp (disch:=omega) [h12i, rd_old _ hida, rd_old _ hidb, hx, hy, hz, hid];exact Red.rfl)))
          refine q_drop (.inr rfl) (by simp; exact Red.rfl) (by simp) (jn_bad (e := 8) (by rw [joinE, if_neg hE, if_neg h12, if_pos hid]) (by decide) rfl rfl)
        · repeat (first|(with_reducible first|apply X1|apply X2|apply X4|apply X5|apply X8|apply Y1|apply Y4|apply Y6|apply Y9)|((with_reducible first|apply e_end|apply d_end);(simp;exact Red.rfl))|((first|((with_reducible apply O1);rfl)|((with_reducible apply P1);rfl)|((with_reducible apply P2);rfl));(simp (disch:=omega) [h12i, rd_old _ hida, rd_old _ hidb, hx, hy, hz, hid];exact Red.rfl);exact Red.rfl;(focus (first|(simp;done)|omega|(simp;omega))))|((with_reducible apply W3);(simp (disch:=omega) [h12i, rd_old _ hida, rd_old _ hidb, hx, hy, hz, hid];exact Red.rfl)))
          (with_reducible apply e_call); (simp; exact Red.rfl); exact c_Concat _ a b id1 o1 id2 o2 _ e1 e2 (by rw [rd_old _ hida]; exact ha) (by rw [rd_old _ hidb]; exact hb) (by simp) (by omega) (by omega) (by omega)
          rintro _ _ ⟨rfl, rfl⟩
          repeat (first|(with_reducible first|apply X3|apply X8)|((with_reducible apply e_end);(simp;exact Red.rfl))|((first|((with_reducible apply O1);rfl)|((with_reducible apply O2);rfl));(simp (disch:=omega);exact Red.rfl);exact Red.rfl;(focus (first|(simp;done)|omega|(simp;omega)))))
          have pab : Plain ((a ++ b).flatMap Str.av) := by rw [flat_eq]; exact (plain_str _).plain _
          refine q_post (v' := .tuple [.agg [.slice H.length 0 (a.length + b.length) 9 false], .int .i64 0]) (.inr rfl) (by simp; exact Red.rfl) (le_plain [4] [.cells ((a ++ b).flatMap Str.av) true] (by simp) (by simp) (by simp only [List.mem_singleton]; rintro _ rfl; exact pab.o _) (by simp [sh, AV.ren, renL])) (jn_ok (by rw [joinE, if_neg hE, if_neg h12, if_neg hid]) (by omega) rfl rfl)
theorem strAt_app_l {a : List Str} (b : List Str) {i : Nat} (h : i < a.length) : strAt (a ++ b) i = strAt a i := by
  rw [strAt_eq (by simp; omega), strAt_eq h, List.getElem_append_left h]
theorem strAt_app_r (a : List Str) {b : List Str} {i : Nat} (h : i < b.length) : strAt (a ++ b) (a.length + i) = strAt b i := by
  rw [strAt_eq (by simp; omega), strAt_eq h, List.getElem_append_right (by omega)]
  simp
theorem okAt_iff {l : List Str} {i : Nat} : okAt l i ↔ i < l.length ∧ (strAt l i).ok ∧ (0 < i → (strAt l (i - 1)).id < (strAt l i).id) := by
  constructor
  · rintro ⟨h, h1, h2⟩
    refine ⟨h, by rw [strAt_eq h]; exact h1, fun h0 => ?_⟩
    rw [strAt_eq h, strAt_eq (show i - 1 < l.length by omega)]; exact h2 h0
  · rintro ⟨h, h1, h2⟩
    refine ⟨h, by rw [strAt_eq h] at h1; exact h1, fun h0 => ?_⟩
    have := h2 h0
    rw [strAt_eq h, strAt_eq (show i - 1 < l.length by omega)] at this; exact this
theorem valid_app {a b : List Str} (ha : validL a) (hb : validL b) (hl : a.length + b.length ≤ 12) (hid : lastId a < firstId b) : validL (a ++ b) := by
  refine ⟨by have := ha.1; simp; omega, fun i hi => okAt_iff.2 ⟨hi, ?_⟩⟩
  rw [List.length_append] at hi
  rcases Nat.lt_or_ge i a.length with h | h
  · have h1 := okAt_iff.1 (ha.2 i h)
    rw [strAt_app_l b h]
    refine ⟨h1.2.1, fun h0 => ?_⟩
    rw [strAt_app_l b (show i - 1 < a.length by omega)]; exact h1.2.2 h0
  · obtain ⟨q, rfl⟩ : ∃ q, i = a.length + q := ⟨i - a.length, by omega⟩
    have hq : q < b.length := by omega
    have h1 := okAt_iff.1 (hb.2 q hq)
    rw [strAt_app_r a hq]
    refine ⟨h1.2.1, fun h0 => ?_⟩
    rcases Nat.eq_zero_or_pos q with rfl | hq0
    · have ha1 := ha.1.1
      rw [Nat.add_zero, strAt_app_l b (show a.length - 1 < a.length by omega)]; exact hid
    · rw [show a.length + q - 1 = a.length + (q - 1) by omega, strAt_app_r a (show q - 1 < b.length by omega)]
      exact h1.2.2 hq0
theorem jnR_eq' {H : Heap} {a b : List Str} {v : AV} {h' : Heap} (h : jnR H a b v h') : v = .tuple [.agg [lsV H 9 (joinL a b).length], .int .i64 (joinE a b)] ∧ h' = H ++ lsO (joinL a b).length ((joinL a b).flatMap Str.av) := h
theorem c_JoinB (H : Heap) (a b : List Str) (id1 o1 id2 o2 : Nat) (e1 e2 : Bool) (e : Int) (ha : rd H id1 o1 (a.length * 9) = some (a.flatMap Str.av)) (hb : rd H id2 o2 (b.length * 9) = some (b.flatMap Str.av)) (hna : (a.length : Int) < 1000000) (hnb : (b.length : Int) < 1000000) (he : joinE a b = e) (h0 : e ≠ 0) :
    ACalls Try.prog F.track_Join [.agg [.slice id1 o1 a.length 9 e1], .agg [.slice id2 o2 b.length 9 e2]] H (fun v h' => v = .tuple [.agg [.nilslice], .int .i64 e] ∧ h' = H) :=
  (c_Join H a b id1 o1 id2 o2 e1 e2 ha hb hna hnb).mono fun v h' h => by
    have := jnR_eq' h
    have hl : joinL a b = [] := by rw [joinL, if_neg (by rw [he]; exact h0)]
    rw [hl, he] at this
    simpa [lsV, lsO] using this
theorem c_JoinG (H : Heap) (a b : List Str) (id1 o1 id2 o2 : Nat) (e1 e2 : Bool) (ha : rd H id1 o1 (a.length * 9) = some (a.flatMap Str.av)) (hb : rd H id2 o2 (b.length * 9) = some (b.flatMap Str.av)) (hva : validL a) (hvb : validL b) (h12 : ¬ 12 < a.length + b.length) (hid : ¬ firstId b ≤ lastId a) :
    ACalls Try.prog F.track_Join [.agg [.slice id1 o1 a.length 9 e1], .agg [.slice id2 o2 b.length 9 e2]] H (fun v h' => v = .tuple [.agg [.slice H.length 0 (a.length + b.length) 9 false], .int .i64 0] ∧ h' = H ++ [.cells ((a ++ b).flatMap Str.av) true]) :=
  (c_Join H a b id1 o1 id2 o2 e1 e2 ha hb (by have := hva.1; omega) (by have := hvb.1; omega)).mono fun v h' h => by
    have := jnR_eq' h
    have hE : ¬ (¬ validL a ∨ ¬ validL b) := by simp [hva, hvb]
    have he : joinE a b = 0 := by rw [joinE, if_neg hE, if_neg h12, if_neg hid]
    have hl : joinL a b = a ++ b := by rw [joinL, if_pos he]
    have hn : ¬ a.length + b.length = 0 := by have := hva.1; omega
    rw [hl, he] at this
    simpa only [lsV, lsO, List.length_append, if_neg hn] using this
end Go.Proofs
/- SlideJoined: heads of a run that goes on. -/
namespace Go.Proofs
open Go.Abs
attribute [local simp] AOp.den AOpd.ev lk cellsOf rd_new rd_new0 rd_zero rd_succ wr_new wr_new0 wr_zero wr_succ splice fillA binA scal sliceCells List.length_append argsT AV.sc scL AObj.sc resV getAll AR.get AOp.slots opdSlots opdsSlots partSlots eqAt at_new0 at_new set_new0 set_new wrap64
set_option linter.unusedSimpArgs false
set_option linter.unusedVariables false
/-- A sled that starts where it was. -/
def goS (s : Sl) (a : List Str) : Sl := ⟨s.c, hd false s a a.length, hd true s a a.length, s.r1, s.r2, s.d1, s.d2, s.w1, s.w2, s.t1, s.t2⟩
theorem hd_app_l (t : Bool) (s : Sl) (a b : List Str) : ∀ {i : Nat}, i ≤ a.length → hd t s (a ++ b) i = hd t s a i
  | 0, _ => rfl
  | i + 1, hi => by
    have h := hd_app_l t s a b (i := i) (by omega)
    simp only [hd, hdG] at h ⊢
    rw [h, strAt_app_l b (show i < a.length by omega)]
theorem hd_app_r (t : Bool) (s : Sl) (a b : List Str) : ∀ {j : Nat}, j ≤ b.length → hd t s (a ++ b) (a.length + j) = hd t (goS s a) b j
  | 0, _ => by
    rw [Nat.add_zero, hd_app_l t s a b (Nat.le_refl _)]
    cases t <;> rfl
  | j + 1, hj => by
    have h := hd_app_r t s a b (j := j) (by omega)
    rw [← Nat.add_assoc]
    simp only [hd, hdG] at h ⊢
    rw [h, strAt_app_r a (show j < b.length by omega)]
    cases t <;> rfl
theorem thr_app_l (t : Bool) (s : Sl) (a b : List Str) {i : Nat} (hi : i < a.length) : thrB t s (a ++ b) i = thrB t s a i := by
  simp only [thrB, wiF]
  simp only [hd_app_l t s a b (show i ≤ a.length by omega), hd_app_l t s a b (show i + 1 ≤ a.length by omega), strAt_app_l b hi]
  rfl
theorem thr_app_r (t : Bool) (s : Sl) (a b : List Str) {j : Nat} (hj : j < b.length) : thrB t s (a ++ b) (a.length + j) = thrB t (goS s a) b j := by
  simp only [thrB, wiF]
  simp only [Nat.add_assoc, hd_app_r t s a b (show j ≤ b.length by omega), hd_app_r t s a b (show j + 1 ≤ b.length by omega), strAt_app_r a hj]
  rfl
theorem thN_app (t : Bool) (s : Sl) (a b : List Str) : thN t s (a ++ b) = 0 ↔ thN t s a = 0 ∧ thN t (goS s a) b = 0 := by
  rw [thN_zero, thN_zero, thN_zero]
  constructor
  · intro h
    refine ⟨fun i hi => ?_, fun j hj => ?_⟩
    · rw [← thr_app_l t s a b hi]; exact h i (by simp; omega)
    · rw [← thr_app_r t s a b hj]; exact h _ (by simp; omega)
  · rintro ⟨h1, h2⟩ i hi
    rw [List.length_append] at hi
    rcases Nat.lt_or_ge i a.length with h | h
    · rw [thr_app_l t s a b h]; exact h1 i h
    · obtain ⟨j, rfl⟩ : ∃ j, i = a.length + j := ⟨i - a.length, by omega⟩
      rw [thr_app_r t s a b (show j < b.length by omega)]; exact h2 j (by omega)
theorem thN_le {l : List Str} {s : Sl} (hv : validL l) (hs : s.ok) (h : thN true s l = 0) : thN false s l = 0 := by
  rw [thN_zero] at h ⊢
  intro i hi
  cases e : thrB false s l i with
  | false => rfl
  | true => have := thr_le hv hs hi e; rw [h i hi] at this; cases this
theorem kn_app {s : Sl} {a b : List Str} (ha : validL a) (hb : validL b) (hs : s.ok) (hg : (goS s a).ok) : knF s (a ++ b) = min (knF s a) (knF (goS s a) b) := by
  have h1 := thN_app true s a b
  have h2 := thN_app false s a b
  have h3 := thN_le ha hs
  have h4 := thN_le hb hg
  unfold knF
  by_cases p : thN true s a = 0 <;> by_cases q : thN true (goS s a) b = 0 <;> by_cases p2 : thN false s a = 0 <;> by_cases q2 : thN false (goS s a) b = 0 <;> simp_all <;> decide
theorem go_ok {s : Sl} {a : List Str} (ha : validL a) (hs : s.ok) : (goS s a).ok ↔ hd true s a a.length ≤ 200000 := by
  have h1 := hd_le ha hs (Nat.le_refl a.length)
  have h2 := hd_bd ha hs false (Nat.le_refl a.length)
  obtain ⟨k0, k1, k2, k3, k4, k5⟩ := hs
  simp only [Sl.ok, goS]
  constructor
  · intro h; omega
  · intro h; exact ⟨k0, by omega, k2, k3, k4, k5⟩
theorem avR_add (r : Nat → List AV) (n : Nat) : ∀ m, avR r (n + m) = avR r n ++ avR (fun j => r (n + j)) m
  | 0 => by rw [Nat.add_zero, avR_zero, List.append_nil]
  | m + 1 => by rw [← Nat.add_assoc, avR_succ, avR_add r n m, avR_succ, List.append_assoc]
theorem heads_app (s : Sl) (a b : List Str) : avR (r2 (hd false s (a ++ b)) (hd true s (a ++ b))) (a.length + b.length + 1) = avR (r2 (hd false s a) (hd true s a)) (a.length + 1) ++ (avR (r2 (hd false (goS s a) b) (hd true (goS s a) b)) (b.length + 1)).drop 2 := by
  have e1 : a.length + b.length + 1 = a.length + 1 + b.length := by omega
  have e2 : b.length + 1 = 1 + b.length := by omega
  rw [e1, avR_add, e2, avR_add _ 1]
  have e3 : avR (r2 (hd false (goS s a) b) (hd true (goS s a) b)) 1 = r2 (hd false (goS s a) b) (hd true (goS s a) b) 0 := by rw [avR_succ, avR_zero, List.nil_append]
  rw [e3]
  have e4 : ∀ x : List AV, (r2 (hd false (goS s a) b) (hd true (goS s a) b) 0 ++ x).drop 2 = x := fun x => rfl
  rw [e4]
  congr 1
  · exact avR_congr fun j hj => by simp only [r2]; rw [hd_app_l false s a b (by omega), hd_app_l true s a b (by omega)]
  · exact avR_congr fun j hj => by
      simp only [r2]
      rw [show a.length + 1 + j = a.length + (1 + j) by omega, hd_app_r false s a b (by omega), hd_app_r true s a b (by omega)]
end Go.Proofs
/- SlideJoined, the law's contract. -/
namespace Go.Proofs
open Go.Abs
attribute [local simp] AOp.den AOpd.ev lk cellsOf rd_new rd_new0 rd_zero rd_succ wr_new wr_new0 wr_zero wr_succ splice fillA binA scal sliceCells List.length_append argsT AV.sc scL AObj.sc resV getAll AR.get AOp.slots opdSlots opdsSlots partSlots eqAt at_new0 at_new set_new0 set_new wrap64
set_option linter.unusedSimpArgs false
set_option linter.unusedVariables false
theorem knF_bdJ (s : Sl) (l : List Str) : 0 ≤ knF s l ∧ knF s l ≤ 2 := by
  unfold knF
  split
  · omega
  · split <;> omega
set_option maxHeartbeats 4000000 in
theorem c_lawSJ (H : Heap) (a b : List Str) (s : Sl) (id off id2 off2 : Nat) (ex ex2 : Bool) (ha : rd H id off (a.length * 9) = some (a.flatMap Str.av)) (hb : rd H id2 off2 (b.length * 9) = some (b.flatMap Str.av)) (hc : 0 ≤ s.c ∧ s.c ≤ 255) :
    ACalls Try.prog F.law03_SlideJoined [.agg [.slice id off a.length 9 ex], .agg [.slice id2 off2 b.length 9 ex2], .agg s.av] H (fun v _ => v = .bool true) := by
  have ca : ∀ H, ACalls Try.prog F.law03_alive [] H (fun v h => v = .bool true ∧ h = H) := Try.true40
  have hid := rd_lt ha
  have hid2 := rd_lt hb
  have kr := fun G => c_sready (H ++ G) a id off ex s (by rw [rd_old _ hid]; exact ha) hc
  have kr2 := fun G => c_sready (H ++ G) b id2 off2 ex2 s (by rw [rd_old _ hid2]; exact hb) hc
  simp only [sav_eq] at kr kr2 ⊢
  refine acalls_of ok_law03_SlideJoined rfl fun hcl => ?_
  unfold ac_law03_SlideJoined
  simp only [argsT, Nat.zero_add, Nat.reduceAdd]
  repeat (first|(with_reducible first|apply X1|apply X2|apply X8)|((with_reducible apply e_end);(simp;exact Red.rfl))|((with_reducible apply O1);rfl;(simp (disch:=omega);exact Red.rfl);exact Red.rfl;(focus (first|(simp;done)|omega|(simp;omega)))))
  (with_reducible apply e_call); (simp; exact Red.rfl); exact ca _
  rintro _ _ ⟨rfl, rfl⟩
  repeat (first|(with_reducible first|apply X1|apply X2|apply X8)|((with_reducible apply e_end);(simp;exact Red.rfl))|((with_reducible apply O1);rfl;(simp (disch:=omega);exact Red.rfl);exact Red.rfl;(focus (first|(simp;done)|omega|(simp;omega)))))
  (with_reducible apply e_call); (simp; exact Red.rfl); exact kr _
  rintro _ _ ⟨rfl, x, rfl, hva⟩
  cases x with
  | false =>
    repeat (first|(with_reducible first|apply X1|apply X2|apply X3|apply X8|apply X9)|((with_reducible apply e_end);(simp;exact Red.rfl))|((with_reducible apply O1);rfl;(simp (disch:=omega);exact Red.rfl);exact Red.rfl;(focus (first|(simp;done)|omega|(simp;omega))))|((with_reducible apply Z9);(simp (disch:=omega);exact Red.rfl))|((with_reducible apply Z2);(simp (disch:=omega);exact Red.rfl)))
    exact q_drop (.inr rfl) (by simp; exact Red.rfl) (by simp) rfl
  | true =>
    have hva := hva.1 rfl
    repeat (first|((with_reducible apply O1);rfl;(simp (disch:=omega);exact Red.rfl);exact Red.rfl;(focus (first|(simp;done)|omega|(simp;omega))))|((with_reducible apply Z7);(simp (disch:=omega);exact Red.rfl)))
    (with_reducible apply e_call); (simp; exact Red.rfl); exact kr2 _
    rintro _ _ ⟨rfl, x, rfl, hvb⟩
    cases x with
    | false =>
      repeat (first|(with_reducible first|apply X1|apply X2|apply X3|apply X8|apply X9)|((with_reducible apply e_end);(simp;exact Red.rfl))|((with_reducible apply O1);rfl;(simp (disch:=omega);exact Red.rfl);exact Red.rfl;(focus (first|(simp;done)|omega|(simp;omega))))|((with_reducible first|apply Z7|apply Z9);(simp (disch:=omega);exact Red.rfl))|((with_reducible apply Z2);(simp (disch:=omega);exact Red.rfl)))
      exact q_drop (.inr rfl) (by simp; exact Red.rfl) (by simp) rfl
    | true =>
      obtain ⟨hvb, hk⟩ := hvb.1 rfl
      have hva := hva.1
      have ka := sz1 hva
      have kb := sz1 hvb
      have hE : ¬ (¬ validL a ∨ ¬ validL b) := by simp [hva, hvb]
      repeat (first|(with_reducible first|apply X1|apply X2|apply X5|apply X8)|((with_reducible apply e_end);(simp;exact Red.rfl))|((with_reducible apply O1);rfl;(simp (disch:=omega);exact Red.rfl);exact Red.rfl;(focus (first|(simp;done)|omega|(simp;omega))))|((with_reducible apply Z7);(simp (disch:=omega);exact Red.rfl))|((with_reducible apply W3);(simp (disch:=omega);exact Red.rfl)))
      by_cases h12 : 12 < a.length + b.length
      · (with_reducible apply e_call); (simp; exact Red.rfl); exact c_JoinB _ a b id off id2 off2 ex ex2 9 (by rw [rd_old _ hid]; exact ha) (by rw [rd_old _ hid2]; exact hb) (by omega) (by omega) (by rw [joinE, if_neg hE, if_pos h12]) (by decide)
        rintro _ _ ⟨rfl, rfl⟩
        repeat (first|(with_reducible first|apply X1|apply X2|apply X3|apply X8|apply X9)|((with_reducible apply e_end);(simp;exact Red.rfl))|((first|((with_reducible apply O1);rfl)|((with_reducible apply O2);rfl));(simp (disch:=omega);exact Red.rfl);exact Red.rfl;(focus (first|(simp;done)|omega|(simp;omega))))|((with_reducible first|apply Z7|apply Z9);(simp (disch:=omega);exact Red.rfl))|((with_reducible apply Z2);(simp (disch:=omega);exact Red.rfl)))
        exact q_drop (.inr rfl) (by simp; exact Red.rfl) (by simp) rfl
      · by_cases hlf : firstId b ≤ lastId a
        · (with_reducible apply e_call); (simp; exact Red.rfl); exact c_JoinB _ a b id off id2 off2 ex ex2 8 (by rw [rd_old _ hid]; exact ha) (by rw [rd_old _ hid2]; exact hb) (by omega) (by omega) (by rw [joinE, if_neg hE, if_neg h12, if_pos hlf]) (by decide)
          rintro _ _ ⟨rfl, rfl⟩
          repeat (first|(with_reducible first|apply X1|apply X2|apply X3|apply X8|apply X9)|((with_reducible apply e_end);(simp;exact Red.rfl))|((first|((with_reducible apply O1);rfl)|((with_reducible apply O2);rfl));(simp (disch:=omega);exact Red.rfl);exact Red.rfl;(focus (first|(simp;done)|omega|(simp;omega))))|((with_reducible first|apply Z7|apply Z9);(simp (disch:=omega);exact Red.rfl)))
          exact q_drop (.inr rfl) (by simp; exact Red.rfl) (by simp) rfl
        · have hab : validL (a ++ b) := valid_app hva hvb (by omega) (by omega)
          have hlab : (a ++ b).length = a.length + b.length := by simp
          have pab : Plain ((a ++ b).flatMap Str.av) := by rw [flat_eq]; exact (plain_str _).plain _
          have fab : ((a ++ b).flatMap Str.av).length = (a.length + b.length) * 9 := by rw [flat_eq, ← hlab]; exact (plain_str _).length _
          have kJ := fun G => c_JoinG (H ++ G) a b id off id2 off2 ex ex2 (by rw [rd_old _ hid]; exact ha) (by rw [rd_old _ hid2]; exact hb) hva hvb h12 hlf
          have hh := heads_app s a b
          have hkn := fun hg => kn_app hva hvb hk hg
          generalize hcc : a ++ b = c at *
          simp only [← hlab] at kJ fab hh
          have hcl : (c.length : Int) = (a.length : Int) + b.length := by omega
          have kc := sz1 hab
          (with_reducible apply e_call); (simp; exact Red.rfl); exact kJ _
          rintro _ _ ⟨rfl, rfl⟩
          repeat (first|(with_reducible first|apply X1|apply X2|apply X5|apply X8)|((with_reducible apply e_end);(simp;exact Red.rfl))|((first|((with_reducible apply O1);rfl)|((with_reducible apply O2);rfl));(simp (disch:=omega);exact Red.rfl);exact Red.rfl;(focus (first|(simp;done)|omega|(simp;omega))))|((with_reducible apply W3);(simp (disch:=omega);exact Red.rfl)))
          have kH := fun G => c_sHeads (H ++ G) a id off ex s (by rw [rd_old _ hid]; exact ha) hva hk
          have m1l : (avR (r2 (hd false s a) (hd true s a)) (a.length + 1)).length = (a.length + 1) * 2 := (plain_r2 _ _).length _
          have m1p : Plain (avR (r2 (hd false s a) (hd true s a)) (a.length + 1)) := (plain_r2 _ _).plain _
          have m1e : ((avR (r2 (hd false s a) (hd true s a)) (a.length + 1)).drop (a.length * 2)).take 2 = [.int .i64 (hd false s a a.length), .int .i64 (hd true s a a.length)] := (plain_r2 (hd false s a) (hd true s a)).row (show a.length < a.length + 1 by omega)
          have kS := fun G => c_rSled G (goS s a) hc
          have hgo := go_ok hva hk
          simp only [goS, sav_eq] at kS kH
          generalize avR (r2 (hd false s a) (hd true s a)) (a.length + 1) = M1 at *
          (with_reducible apply e_call); (simp; exact Red.rfl); exact kH _
          rintro _ _ ⟨rfl, rfl⟩
          have w1 : a.length * 2 + 2 ≤ (a.length + 1) * 2 := by omega
          have hz : ((a.length : Int) + 1 - 1).toNat = a.length := by omega
          have w2 : a.length < a.length + 1 := by omega
          have w3 : (a.length : Int) < (a.length : Int) + 1 := by omega
          have w4 : (a.length : Int) + 1 - 1 = a.length := by omega
          repeat (first|(with_reducible first|apply X1|apply X2|apply X5|apply X8)|((with_reducible apply e_end);(simp;exact Red.rfl))|((first|((with_reducible apply O1);rfl)|((with_reducible apply O2);rfl));(simp (disch:=omega) [m1l, m1e, w1, hz, w2, w3, w4];exact Red.rfl);exact Red.rfl;(focus (first|(simp;done)|omega|(simp;omega))))|((with_reducible apply Z7);(simp (disch:=omega) [m1l, m1e, w1, hz, w2, w3, w4];exact Red.rfl))|((with_reducible apply W3);(simp (disch:=omega) [m1l, m1e, w1, hz, w2, w3, w4];exact Red.rfl)))
          (with_reducible apply e_call); (simp; exact Red.rfl); exact kS _
          rintro _ _ ⟨rfl, x, rfl, hgb⟩
          cases x with
          | false =>
            have hgn : 200000 < hd true s a a.length := by
              rcases Int.lt_or_le 200000 (hd true s a a.length) with h | h
              · exact h
              · have := hgb.2 (hgo.2 h); cases this
            repeat (first|(with_reducible first|apply X1|apply X2|apply X3|apply X8|apply X9)|((with_reducible apply e_end);(simp;exact Red.rfl))|((with_reducible apply O1);rfl;(simp (disch:=omega) [hgn];exact Red.rfl);exact Red.rfl;(focus (first|(simp;done)|omega|(simp;omega))))|((with_reducible first|apply Z7|apply Z9);(simp (disch:=omega) [hgn];exact Red.rfl)))
            exact q_drop (.inr rfl) (by simp; exact Red.rfl) (by simp [pab.sc, m1p.sc]) rfl
          | true =>
            have hg : (goS s a).ok := hgb.1 rfl
            have hkn := hkn hg
            have kH2 := fun G => c_sHeads (H ++ G) b id2 off2 ex2 (goS s a) (by rw [rd_old _ hid2]; exact hb) hvb hg
            have kS1 := fun G => c_Safe (H ++ G) a id off ex s (by rw [rd_old _ hid]; exact ha) hva hk
            have kS2 := fun G => c_Safe (H ++ G) b id2 off2 ex2 (goS s a) (by rw [rd_old _ hid2]; exact hb) hvb hg
            have m2l : (avR (r2 (hd false (goS s a) b) (hd true (goS s a) b)) (b.length + 1)).length = (b.length + 1) * 2 := (plain_r2 _ _).length _
            have m2p : Plain (avR (r2 (hd false (goS s a) b) (hd true (goS s a) b)) (b.length + 1)) := (plain_r2 _ _).plain _
            have hmin : (if knF (goS s a) b < knF s a then knF (goS s a) b else knF s a) = knF s c := by rw [hkn]; omega
            have n1 := knF_bdJ s a
            have n2 := knF_bdJ (goS s a) b
            have n3 := knF_bdJ s c
            simp only [goS, sav_eq] at kH2 kS1 kS2
            have hgo2 : (⟨s.c, hd false s a a.length, hd true s a a.length, s.r1, s.r2, s.d1, s.d2, s.w1, s.w2, s.t1, s.t2⟩ : Sl) = goS s a := rfl
            simp only [hgo2] at kH2 kS1 kS2
            generalize knF (goS s a) b = n2' at *
            generalize avR (r2 (hd false (goS s a) b) (hd true (goS s a) b)) (b.length + 1) = M2 at *
            repeat (first|(with_reducible first|apply X1|apply X2|apply X5|apply X8)|((with_reducible apply e_end);(simp;exact Red.rfl))|((with_reducible apply O1);rfl;(simp (disch:=omega);exact Red.rfl);exact Red.rfl;(focus (first|(simp;done)|omega|(simp;omega))))|((with_reducible apply W3);(simp (disch:=omega);exact Red.rfl)))
            (with_reducible apply e_call); (simp; exact Red.rfl); exact kH2 _
            rintro _ _ ⟨rfl, rfl⟩
            repeat (first|(with_reducible first|apply X1|apply X2|apply X8)|((with_reducible apply e_end);(simp;exact Red.rfl))|((with_reducible apply O1);rfl;(simp (disch:=omega);exact Red.rfl);exact Red.rfl;(focus (first|(simp;done)|omega|(simp;omega)))))
            have kH3 := fun (Hh : Heap) h => c_sHeads Hh c (H.length + 3) 0 false s h hab hk
            have kS3 := fun (Hh : Heap) h => c_Safe Hh c (H.length + 3) 0 false s h hab hk
            have m3l : (avR (r2 (hd false s c) (hd true s c)) (c.length + 1)).length = (c.length + 1) * 2 := (plain_r2 _ _).length _
            have m3p : Plain (avR (r2 (hd false s c) (hd true s c)) (c.length + 1)) := (plain_r2 _ _).plain _
            simp only [sav_eq] at kH3 kS3
            (with_reducible apply e_call); (simp; exact Red.rfl); exact kH3 _ (rd_full (b := true) (by simp [at_new, Nat.add_assoc]) fab)
            rintro _ _ ⟨rfl, rfl⟩
            have m2d : (M2.drop 2).take (b.length * 2) = M2.drop 2 := List.take_of_length_le (by rw [List.length_drop, m2l]; omega)
            have m2s : (M2.drop 2).all scal = true := by
              have h := m2p.scal
              rw [List.all_eq_true] at h ⊢
              exact fun x hx => h x (List.mem_of_mem_drop hx)
            have m2w : 2 + b.length * 2 ≤ (b.length + 1) * 2 := by omega
            have m2z : b.length + 1 - 1 = b.length := by omega
            repeat (first|(with_reducible first|apply X1|apply X8|apply Y9)|((with_reducible apply e_end);(simp;exact Red.rfl))|((first|((with_reducible apply O1);rfl)|((with_reducible apply P1);rfl)|((with_reducible apply P2);rfl)|((with_reducible apply P3);rfl)|((with_reducible apply P5);rfl));(simp (disch:=omega) [hcl, m1l, take_all m1l, m1p.scal, m2l, m2d, m2s, m2w, m2z];exact Red.rfl);exact Red.rfl;(focus (first|(simp;done)|omega|(simp;omega))))|((with_reducible apply Z8);(simp (disch:=omega) [hcl, m1l, take_all m1l, m1p.scal, m2l, m2d, m2s, m2w, m2z];exact Red.rfl)))
            have hle : a.length + 1 + b.length = c.length + 1 := by omega
            rw [hle]
            have hl3 : (M1 ++ M2.drop 2).length = (c.length + 1) * 2 := by rw [← hh]; exact m3l
            (with_reducible apply d_call); (simp; exact Red.rfl); exact c_r1SameSpans _ (.slice (H.length + 8) 0 (c.length + 1) 2 true) (.slice (H.length + 11) 0 (c.length + 1) 2 false) (hd false s c) (hd true s c) (c.length + 1) (LAt.of (by simp [at_new, Nat.add_assoc]) m3l true).r (by rw [hh]; exact (LAt.of (by simp [at_new, Nat.add_assoc]) hl3 false).r) (by omega); (focus (first | (simp; done) | (simp; omega)))
            repeat (first|(with_reducible first|apply X1|apply X2|apply X5|apply X8)|((with_reducible apply d_end);(simp;exact Red.rfl))|((first|((with_reducible apply O1);rfl)|((with_reducible apply P1);rfl));(simp (disch:=omega);exact Red.rfl);exact Red.rfl;(focus (first|(simp;done)|omega|(simp;omega))))|((with_reducible apply Z8);(simp (disch:=omega);exact Red.rfl))|((with_reducible apply W3);(simp (disch:=omega);exact Red.rfl)))
            (with_reducible apply e_call); (simp; exact Red.rfl); exact kS1 _
            rintro _ _ ⟨rfl, rfl⟩
            repeat (first|(with_reducible first|apply X1|apply X2|apply X8)|((with_reducible apply e_end);(simp;exact Red.rfl))|((with_reducible apply O1);rfl;(simp (disch:=omega);exact Red.rfl);exact Red.rfl;(focus (first|(simp;done)|omega|(simp;omega)))))
            (with_reducible apply e_call); (simp; exact Red.rfl); exact kS2 _
            rintro _ _ ⟨rfl, rfl⟩
            repeat (first|(with_reducible first|apply X1|apply X2|apply X8)|((with_reducible apply e_end);(simp;exact Red.rfl))|((with_reducible apply O1);rfl;(simp (disch:=omega);exact Red.rfl);exact Red.rfl;(focus (first|(simp;done)|omega|(simp;omega)))))
            (with_reducible apply e_call); (simp; exact Red.rfl); exact kS3 _ (rd_full (b := true) (by simp [at_new, Nat.add_assoc]) fab)
            rintro _ _ ⟨rfl, rfl⟩
            repeat (first|(with_reducible first|apply X1|apply X2|apply X3|apply X8)|((with_reducible apply e_end);(simp;exact Red.rfl))|((with_reducible apply O1);rfl;(simp (disch:=omega) [hmin];exact Red.rfl);exact Red.rfl;(focus (first|(simp;done)|omega|(simp;omega))))|((with_reducible apply Z7);(simp (disch:=omega) [hmin];exact Red.rfl)))
            exact q_drop (.inr rfl) (by simp; exact Red.rfl) (by simp) rfl
end Go.Proofs
