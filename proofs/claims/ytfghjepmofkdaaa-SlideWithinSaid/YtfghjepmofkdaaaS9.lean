/- SlideWithin, the law's contract. -/
import Derived.Test.YtfghjepmofkdaaaSC
import Derived.Test.YtfghjepmofkdaaaRunSlideAlive
namespace Go.Proofs
open Go.Abs
attribute [local simp] AOp.den AOpd.ev lk cellsOf rd_new rd_new0 rd_zero rd_succ wr_new wr_new0 wr_zero wr_succ splice fillA binA scal sliceCells List.length_append argsT AV.sc scL AObj.sc resV getAll AR.get AOp.slots opdSlots opdsSlots partSlots eqAt at_new0 at_new set_new0 set_new wrap64
set_option linter.unusedSimpArgs false
set_option linter.unusedVariables false
set_option maxHeartbeats 4000000 in
theorem c_lawSW (H : Heap) (l : List Str) (s : Sl) (us : List Int) (id off bid boff : Nat) (ex bex : Bool) (hs : rd H id off (l.length * 9) = some (l.flatMap Str.av)) (hb : rd H bid boff us.length = some (us.map (.int .u32)))
    (hc : 0 ≤ s.c ∧ s.c ≤ 255) (hu : ∀ u ∈ us, 0 ≤ u ∧ u ≤ 4294967295) (hn : (us.length : Int) ≤ 9223372036854775807) :
    ACalls Try.prog F.law03_SlideWithin [.agg [.slice id off l.length 9 ex], .agg s.av, .slice bid boff us.length 1 bex] H (fun v _ => v = .bool true) := by
  have hid := rd_lt hs
  have hbid := rd_lt hb
  have ca : ∀ H, ACalls Try.prog F.law03_alive [] H (fun v h => v = .bool true ∧ h = H) := Try.true31
  have cr := fun H' h => c_sready H' l id off ex s h hc
  have ch := fun hv hk H' h => c_sHeads H' l id off ex s h hv hk
  have ct := fun hv hk H' h hb' => c3_truth H' l s us id off bid boff ex bex h hv hk hb' hu hn
  simp only [Sl.av] at cr ch ct ⊢
  refine acalls_of ok_law03_SlideWithin rfl fun hcl => ?_
  unfold ac_law03_SlideWithin
  simp only [argsT, Nat.zero_add, Nat.reduceAdd]
  repeat (first|(with_reducible first|apply X1|apply X2|apply X8)|((with_reducible apply e_end);(simp;exact Red.rfl))|((with_reducible apply O1);rfl;(simp (disch:=omega);exact Red.rfl);exact Red.rfl;(focus (first|(simp;done)|omega|(simp;omega)))))
  (with_reducible apply e_call); (simp; exact Red.rfl); exact ca _
  rintro _ _ ⟨rfl, rfl⟩
  repeat (first|(with_reducible first|apply X1|apply X2|apply X8)|((with_reducible apply e_end);(simp;exact Red.rfl))|((with_reducible apply O1);rfl;(simp (disch:=omega);exact Red.rfl);exact Red.rfl;(focus (first|(simp;done)|omega|(simp;omega)))))
  (with_reducible apply e_call); (simp; exact Red.rfl); exact cr _ (by rw [rd_old _ hid]; exact hs)
  rintro _ _ ⟨rfl, b, rfl, hbv⟩
  cases b with
  | false =>
    repeat (first|(with_reducible first|apply X1|apply X2|apply X3|apply X8|apply X9)|((with_reducible apply e_end);(simp;exact Red.rfl))|((with_reducible apply O1);rfl;(simp (disch:=omega);exact Red.rfl);exact Red.rfl;(focus (first|(simp;done)|omega|(simp;omega))))|((with_reducible apply Z9);(simp (disch:=omega);exact Red.rfl))|((with_reducible apply Z2);(simp (disch:=omega);exact Red.rfl)))
    refine q_drop (.inr rfl) (by simp; exact Red.rfl) (by simp) rfl
  | true =>
    obtain ⟨hv, hk⟩ := hbv.1 rfl
    have h12 := hv.1
    repeat (first|(with_reducible first|apply X1|apply X2|apply X5|apply X8)|((with_reducible apply e_end);(simp;exact Red.rfl))|((with_reducible apply O1);rfl;(simp (disch:=omega);exact Red.rfl);exact Red.rfl;(focus (first|(simp;done)|omega|(simp;omega))))|((with_reducible apply Z7);(simp (disch:=omega);exact Red.rfl))|((with_reducible apply W3);(simp (disch:=omega);exact Red.rfl)))
    (with_reducible apply e_call); (simp; exact Red.rfl); exact ch hv hk _ (by rw [rd_old _ hid]; exact hs)
    rintro _ _ ⟨rfl, rfl⟩
    repeat (first|(with_reducible first|apply X1|apply X2|apply X8)|((with_reducible apply e_end);(simp;exact Red.rfl))|((with_reducible apply O1);rfl;(simp (disch:=omega);exact Red.rfl);exact Red.rfl;(focus (first|(simp;done)|omega|(simp;omega)))))
    (with_reducible apply e_call); (simp; exact Red.rfl); exact ct hv hk _ (by simp only [List.append_assoc, rd_old _ hid]; exact hs) (by simp only [List.append_assoc, rd_old _ hbid]; exact hb)
    rintro _ _ ⟨rfl, rfl⟩
    repeat (first|(with_reducible first|apply X1|apply X2|apply X5|apply X6|apply X8)|((with_reducible apply e_end);(simp;exact Red.rfl))|((with_reducible apply O1);rfl;(simp (disch:=omega);exact Red.rfl);exact Red.rfl;(focus (first|(simp;done)|omega|(simp;omega))))|((with_reducible apply Z7);(simp (disch:=omega);exact Red.rfl))|((with_reducible apply W3);(simp (disch:=omega);exact Red.rfl)))
    have csp := fun i hi H' h => c_Speed H' l id off ex s h hv hk i hi
    simp only [Sl.av] at csp
    refine e_loop (ι := { i : Nat // i ≤ l.length + 1 })
      (fun i => [(3, .ptr H.length 0), (4, .ptr (H.length + 1) 0), (7, .bool true), (8, .slice (H.length + 2) 0 (l.length + 1) 2 true), (11, .slice (H.length + 3 + 1) 0 l.length 1 false), (52, .slice (H.length + 3) 0 (l.length + 1) 1 false), (53, .int .i64 ((l.length : Int) + 1)), (54, .int .i64 i.1)])
      (fun _ => H ++ [.cells [.slice id off l.length 9 ex] true, .cells [.int .u8 s.c, .int .i64 s.s1, .int .i64 s.s2, .int .i64 s.r1, .int .i64 s.r2, .int .i64 s.d1, .int .i64 s.d2, .int .i64 s.w1, .int .i64 s.w2, .int .i64 s.t1, .int .i64 s.t2] true, .cells (avR (r2 (hd false s l) (hd true s l)) (l.length + 1)) true, .cells (avL (cH us s l) (l.length + 1)) true, .cells (avL (cU us s l) l.length) true]) (fun i => l.length + 1 - i.1) ⟨0, by simp⟩ ?_ ?_
    · exact .inl rfl
    · rintro ⟨i, hi⟩
      dsimp only
      by_cases hlt : i < l.length + 1
      · have hlt2 : (i : Int) < (l.length : Int) + 1 := by omega
        have hlen1 := avL_length (cH us s l) (l.length + 1)
        have le1 : i + 1 ≤ l.length + 1 := hlt
        have rw1 := rowL (f := cH us s l) hlt
        have hl2 := (plain_r2 (hd false s l) (hd true s l)).length (l.length + 1)
        have le2 : i * 2 + 2 ≤ (l.length + 1) * 2 := by omega
        have rw2 := (plain_r2 (hd false s l) (hd true s l)).part (n := l.length + 1) (i := i) (c := 0) (m := 2) hlt (by omega)
        simp only [r2, List.drop_zero, List.take_succ_cons, List.take_zero, Nat.add_zero] at rw2
        have b1 := hd_bd hv hk false (i := i) (by omega)
        have b2 := hd_bd hv hk true (i := i) (by omega)
        have b3 := cH_in (us := us) hv hk (i := i) (by omega)
        have f1 := dn_facts b1 b3.1
        have f2 := up_facts b2 b3.2
        generalize hg1 : dnV (hd false s l i) = v1 at f1
        generalize hg2 : upV (hd true s l i) = v2 at f2
        have b4 := cH_bd (us := us) hv hk (i := i) (by omega)
        repeat (first|(with_reducible first|apply X1|apply X2|apply X5|apply X6|apply X8)|((with_reducible apply e_end);(simp;exact Red.rfl))|((with_reducible apply O1);rfl;(simp (disch:=omega) [hlt, hlt2, hlen1, le1, rw1];exact Red.rfl);exact Red.rfl;(focus (first|(simp;done)|omega|(simp;omega))))|((with_reducible apply Z9);(simp (disch:=omega) [hlt, hlt2, hlen1, le1, rw1];exact Red.rfl)))
        (with_reducible apply e_call); (simp; exact Red.rfl); exact csp i (by omega) _ (by rw [rd_old _ hid]; exact hs)
        rintro _ _ ⟨rfl, rfl⟩
        rw [hg1, hg2]
        repeat (first|(with_reducible first|apply X1|apply X2|apply X8)|((with_reducible apply e_end);(simp;exact Red.rfl))|((first|((with_reducible apply O1);rfl)|((with_reducible apply O2);rfl));(simp (disch:=omega) [hlt, hlt2, hlen1, le1, rw1, hl2, le2, rw2];exact Red.rfl);exact Red.rfl;(focus (first|(simp;done)|omega|(simp;omega))))|((with_reducible apply Z7);(simp (disch:=omega) [hlt, hlt2, hlen1, le1, rw1, hl2, le2, rw2];exact Red.rfl)))
        have hin : (true = true ↔ hd false s l i ≤ cH us s l i ∧ cH us s l i ≤ hd true s l i) := by simp only [true_iff]; exact b3
        (with_reducible apply e_call); (simp; exact Red.rfl); exact c3_inside _ _ _ _ hin
        rintro _ _ ⟨rfl, rfl⟩
        have n1 : ¬ v1 < 0 := by omega
        have n2 : ¬ 1962 * cH us s l i < 10 * v1 * v1 := by omega
        have n3 : ¬ 10 * v2 * v2 < 1962 * cH us s l i := by omega
        repeat (first|(with_reducible first|apply X2|apply X5|apply X8|apply Y2)|((with_reducible apply e_end);(simp;exact Red.rfl))|((with_reducible apply O1);rfl;(simp (disch:=omega) [n1, n2, n3];exact Red.rfl);exact Red.rfl;(focus (first|(simp;done)|omega|(simp;omega))))|((with_reducible apply Z7);(simp (disch:=omega) [n1, n2, n3];exact Red.rfl))|((with_reducible apply W3);(simp (disch:=omega) [n1, n2, n3];exact Red.rfl)))
        refine q_again ⟨i + 1, by omega⟩ (by dsimp only; omega) (.inr ?_)
        have plR := (plain_r2 (hd false s l) (hd true s l)).plain (l.length + 1)
        exact le_take (G := [_, _, _, _, _]) (G2 := [_]) (by simp [avL_sc, plR.sc] <;> omega) (by simp [Red] <;> omega)
      · obtain rfl : i = l.length + 1 := by omega
        repeat (first|(with_reducible first|apply X1|apply X2|apply X4|apply X6|apply X8|apply Y1|apply Y4|apply Y6)|((with_reducible apply e_end);(simp;exact Red.rfl))|((with_reducible apply O1);rfl;(simp (disch:=omega);exact Red.rfl);exact Red.rfl;(focus (first|(simp;done)|omega|(simp;omega))))|((with_reducible apply W3);(simp (disch:=omega);exact Red.rfl)))
        clear hi hlt
        have chc := fun i hi hc' H' h => c_Height H' l id off ex s h hv hk i hi hc'
        have ch0 := fun i hi hc' H' h => c_Height0 H' l id off ex s h hv hk i hi hc'
        simp only [Sl.av] at chc ch0
        refine e_loop (ι := { i : Nat // i ≤ l.length })
          (fun i => [(3, .ptr H.length 0), (4, .ptr (H.length + 1) 0), (7, .bool true), (11, .slice (H.length + 4) 0 l.length 1 false), (106, .slice id off l.length 9 ex), (107, .int .i64 l.length), (108, .int .i64 i.1)])
          (fun _ => H ++ [.cells [.slice id off l.length 9 ex] true, .cells [.int .u8 s.c, .int .i64 s.s1, .int .i64 s.s2, .int .i64 s.r1, .int .i64 s.r2, .int .i64 s.d1, .int .i64 s.d2, .int .i64 s.w1, .int .i64 s.w2, .int .i64 s.t1, .int .i64 s.t2] true, .cells (avR (r2 (hd false s l) (hd true s l)) (l.length + 1)) true, .cells (avL (cH us s l) (l.length + 1)) true, .cells (avL (cU us s l) l.length) true]) (fun i => l.length - i.1) ⟨0, by simp⟩ ?_ ?_
        · exact .inl rfl
        · rintro ⟨i, hi⟩
          dsimp only
          have plR := (plain_r2 (hd false s l) (hd true s l)).plain (l.length + 1)
          by_cases hlt : i < l.length
          · have hlt2 : (i : Int) < l.length := by omega
            have hlen2 := avL_length (cU us s l) l.length
            have le1 : i + 1 ≤ l.length := hlt
            have rw1 := rowL (f := cU us s l) hlt
            have hx := rd_row Str.av_length hs hlt
            have hst := strAt_eq hlt
            have hin := fun h => cU_in (us := us) hv hk hlt h
            have chc := chc i hlt
            have ch0 := ch0 i hlt
            rw [hst] at hin chc ch0
            generalize hsi : l[i] = st at hx hin chc ch0
            obtain ⟨a1, a2, a3, a4, a5, a6, a7, a8, a9⟩ := st
            simp only [Str.av] at hx
            dsimp only at hin chc ch0
            repeat (first|(with_reducible first|apply X1|apply X2|apply X5|apply X6|apply X8)|((with_reducible apply e_end);(simp;exact Red.rfl))|((first|((with_reducible apply O1);rfl)|((with_reducible apply O2);rfl));(simp (disch:=omega) [hlt, hlt2, rd_old _ hid, hx];exact Red.rfl);exact Red.rfl;(focus (first|(simp;done)|omega|(simp;omega))))|((with_reducible apply Z9);(simp (disch:=omega) [hlt, hlt2, rd_old _ hid, hx];exact Red.rfl)))
            by_cases hside : a8 = 0
            · (with_reducible apply e_call); (simp; exact Red.rfl); exact ch0 hside _ (by simp only [List.append_assoc, rd_old _ hid]; exact hs)
              rintro _ _ ⟨rfl, rfl⟩
              repeat (first|(with_reducible first|apply X1|apply X2|apply X4|apply X5|apply X8|apply Y1|apply Y4)|((with_reducible apply e_end);(simp;exact Red.rfl))|((first|((with_reducible apply O1);rfl)|((with_reducible apply O2);rfl));(simp (disch:=omega) [hside];exact Red.rfl);exact Red.rfl;(focus (first|(simp;done)|omega|(simp;omega))))|((with_reducible apply Z9);(simp (disch:=omega) [hside];exact Red.rfl))|((with_reducible apply W3);(simp (disch:=omega) [hside];exact Red.rfl)))
              refine q_again ⟨i + 1, by omega⟩ (by dsimp only; omega) (.inr ?_)
              exact le_take (G := [_, _, _, _, _]) (G2 := [_, _]) (by simp [avL_sc, plR.sc] <;> omega) (by simp [Red] <;> omega)
            · (with_reducible apply e_call); (simp; exact Red.rfl); exact chc hside _ (by simp only [List.append_assoc, rd_old _ hid]; exact hs)
              rintro _ _ ⟨rfl, rfl⟩
              repeat (first|(with_reducible first|apply X1|apply X2|apply X5|apply X8|apply Y9)|((with_reducible apply e_end);(simp;exact Red.rfl))|((first|((with_reducible apply O1);rfl)|((with_reducible apply O2);rfl)|((with_reducible apply P1);rfl)|((with_reducible apply P2);rfl));(simp (disch:=omega) [hside, hlt, hlt2, hlen2, le1, rw1];exact Red.rfl);exact Red.rfl;(focus (first|(simp;done)|omega|(simp;omega))))|((with_reducible apply Z8);(simp (disch:=omega) [hside, hlt, hlt2, hlen2, le1, rw1];exact Red.rfl))|((with_reducible apply W3);(simp (disch:=omega) [hside, hlt, hlt2, hlen2, le1, rw1];exact Red.rfl)))
              (with_reducible apply d_call); (simp; exact Red.rfl); exact c3_inside (b := true) _ _ _ _ (by simp only [true_iff]; exact hin hside); (focus (first | (simp; done) | (simp; omega)))
              repeat (first|(with_reducible first|apply X2|apply X5|apply X8|apply Y2)|((with_reducible first|apply e_end|apply d_end);(simp;exact Red.rfl))|((first|((with_reducible apply O1);rfl)|((with_reducible apply P1);rfl));(simp (disch:=omega);exact Red.rfl);exact Red.rfl;(focus (first|(simp;done)|omega|(simp;omega))))|((with_reducible apply Z8);(simp (disch:=omega);exact Red.rfl))|((with_reducible apply W3);(simp (disch:=omega);exact Red.rfl)))
              refine q_again ⟨i + 1, by omega⟩ (by dsimp only; omega) (.inr ?_)
              exact le_take (G := [_, _, _, _, _]) (G2 := [_, _]) (by simp [avL_sc, plR.sc] <;> omega) (by simp [Red] <;> omega)
          · obtain rfl : i = l.length := by omega
            repeat (first|(with_reducible first|apply X1|apply X2|apply X3|apply X4|apply X8|apply Y1|apply Y4|apply Y6)|((with_reducible apply e_end);(simp;exact Red.rfl))|((with_reducible apply O1);rfl;(simp (disch:=omega);exact Red.rfl);exact Red.rfl;(focus (first|(simp;done)|omega|(simp;omega))))|((with_reducible apply W3);(simp (disch:=omega);exact Red.rfl)))
            refine q_drop (.inr rfl) (by simp; exact Red.rfl) (by simp) rfl
end Go.Proofs
