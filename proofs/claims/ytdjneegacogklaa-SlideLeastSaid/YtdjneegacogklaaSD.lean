/- Several texts as one. -/
import Derived.Test.YtdjneegacogklaaSC
import Derived.Test.YtdjneegacogklaaDD
import Derived.Test.YtdjneegacogklaaRunSlideAlive
/- Least times. -/
namespace Go.Proofs
open Go.Abs
attribute [local simp] AOp.den AOpd.ev lk cellsOf rd_new rd_new0 rd_zero rd_succ wr_new wr_new0 wr_zero wr_succ splice fillA binA scal sliceCells List.length_append argsT AV.sc scL AObj.sc resV getAll AR.get AOp.slots opdSlots opdsSlots partSlots eqAt at_new0 at_new set_new0 set_new wrap64
set_option linter.unusedSimpArgs false
set_option linter.unusedVariables false
theorem up_zero {x : Int} (hx : 0 ≤ x) : upV x = 0 ↔ x = 0 := by
  obtain ⟨h1, h2, h3⟩ := upV_is hx
  constructor
  · intro h; rw [h] at h2; omega
  · intro h
    rcases h3 with h3 | h3
    · exact h3
    · have : 0 ≤ (upV x - 1) * (upV x - 1) := by
        rcases Int.le_total 0 (upV x - 1) with h5 | h5
        · exact Int.mul_nonneg h5 h5
        · exact Int.mul_nonneg_of_nonpos_of_nonpos h5 h5
      omega
theorem up_mono {x y : Int} (hx : 0 ≤ x) (hxy : x ≤ y) : upV x ≤ upV y := by
  obtain ⟨h1, h2, h3⟩ := upV_is hx
  obtain ⟨g1, g2, g3⟩ := upV_is (show 0 ≤ y by omega)
  rcases Int.lt_or_le (upV y) (upV x) with h | h
  · rcases h3 with h3 | h3
    · omega
    · have := sq_mono (a := upV y) (b := upV x - 1) g1 (by omega); omega
  · exact h
theorem up_bd {x : Int} (hx : 0 ≤ x ∧ x ≤ 260000) : 0 ≤ upV x ∧ upV x ≤ 510120001 := ⟨(up_facts hx (Int.le_refl x)).1, (up_facts hx (Int.le_refl x)).2.1⟩
theorem up_max {x y : Int} (hx : 0 ≤ x) (hy : 0 ≤ y) : max (upV x) (upV y) = upV (max x y) := by
  rcases Int.le_total x y with h | h
  · rw [Int.max_eq_right h, Int.max_eq_right (up_mono hx h)]
  · rw [Int.max_eq_left h, Int.max_eq_left (up_mono hy h)]
/-- The least time: a length by a speed, rounded up. -/
def lsF (L v : Int) : Int := (L * 1000 + v - 1) / v
theorem lsF_is {L v : Int} (hL : 1 ≤ L) (hv : 1 ≤ v) : 1 ≤ lsF L v ∧ L * 1000 ≤ lsF L v * v ∧ (lsF L v - 1) * v < L * 1000 ∧ lsF L v ≤ L * 1000 := by
  have h1 : lsF L v * v ≤ L * 1000 + v - 1 := Int.ediv_mul_le _ (by omega)
  have h2 : L * 1000 + v - 1 < (lsF L v + 1) * v := Int.lt_ediv_add_one_mul_self _ (by omega)
  have e : (lsF L v + 1) * v = lsF L v * v + v := by rw [Int.add_mul]; omega
  have e2 : (lsF L v - 1) * v = lsF L v * v - v := by rw [Int.sub_mul]; omega
  have h3 : 1 ≤ lsF L v := (Int.le_ediv_iff_mul_le (by omega)).2 (by omega)
  have h4 : lsF L v - 1 ≤ (lsF L v - 1) * v := by
    have := Int.mul_le_mul_of_nonneg_left hv (show 0 ≤ lsF L v - 1 by omega); omega
  omega

theorem c_Least (H : Heap) (l : List Str) (id off : Nat) (ex : Bool) (s : Sl) (hs : rd H id off (l.length * 9) = some (l.flatMap Str.av)) (hv : validL l) (hk : s.ok) (i : Nat) (hi : i < l.length) :
    ACalls Try.prog F.slide_Least [.agg [.slice id off l.length 9 ex], .agg s.av, .int .i64 i] H (fun v h' => h' = H ∧
      ((upV (wiF (hd true s l) i) = 0 ∧ v = .tuple [.int .i64 0, .int .i64 6]) ∨ (upV (wiF (hd true s l) i) ≠ 0 ∧ v = .tuple [.int .i64 (lsF (strAt l i).lLo (upV (wiF (hd true s l) i))), .int .i64 0]))) := by
  have hid := rd_lt hs
  have h12 := hv.1
  have ck := fun H' h1 xid h2 => c_checkOne H' l id off ex s xid 0 true h1 hv hk h2
  have cf := fun H' h => c_fastest H' s id off l.length ex h
  have cw := fun H' h => c_swithin true H' s l id off ex h hv hk
  have cl := fun H' h => c_long true H' s l id off ex h i hi
  have cb2 := wi_bd hv hk true hi
  have vb := up_bd cb2
  have hi2 : (i : Int) < l.length := by omega
  have hi3 : (i : Int) ≤ (l.length : Int) - 1 := by omega
  have hL := (str_ok hv hi).2.2.1
  simp only [trv, Sl.av, List.cons_append, List.nil_append] at ck cf cw cl ⊢
  refine acalls_of ok_slide_Least rfl fun hcl => ?_
  unfold ac_slide_Least
  simp only [argsT, Nat.zero_add, Nat.reduceAdd]
  repeat (first|(with_reducible first|apply X1|apply X2|apply X8)|((with_reducible apply e_end);(simp;exact Red.rfl))|((with_reducible apply O1);rfl;(simp (disch:=omega);exact Red.rfl);exact Red.rfl;(focus (first|(simp;done)|omega|(simp;omega)))))
  (with_reducible apply e_call); (simp; exact Red.rfl); exact ck _ (by rw [rd_old _ hid]; exact hs) _ (by simp)
  rintro _ _ ⟨rfl, rfl⟩
  repeat (first|(with_reducible first|apply X1|apply X2|apply X5|apply X8)|((with_reducible apply e_end);(simp;exact Red.rfl))|((with_reducible apply O1);rfl;(simp (disch:=omega);exact Red.rfl);exact Red.rfl;(focus (first|(simp;done)|omega|(simp;omega))))|((with_reducible apply W3);(simp (disch:=omega);exact Red.rfl)))
  (with_reducible apply e_call); (simp; exact Red.rfl); exact c_upto _ _
  rintro _ _ ⟨rfl, rfl⟩
  repeat ((with_reducible apply O1);rfl;(simp (disch:=omega);exact Red.rfl);exact Red.rfl;(focus (first|(simp;done)|omega|(simp;omega))))
  (with_reducible apply e_call); (simp; exact Red.rfl); exact c_within _ _ _ [(i : Int)] _ 0 true (by simp) (by simp)
  rintro _ _ ⟨rfl, rfl⟩
  repeat (first|(with_reducible first|apply X1|apply X2|apply X5|apply X8)|((with_reducible apply e_end);(simp;exact Red.rfl))|((with_reducible apply O1);rfl;(simp (disch:=omega) [hi, hi2, hi3];exact Red.rfl);exact Red.rfl;(focus (first|(simp;done)|omega|(simp;omega))))|((with_reducible apply W3);(simp (disch:=omega) [hi, hi2, hi3];exact Red.rfl)))
  (with_reducible apply e_call); (simp; exact Red.rfl); exact cf _ (by simp; omega)
  rintro _ _ ⟨rfl, rfl⟩
  repeat (first|(with_reducible first|apply X1|apply X2|apply X8)|((with_reducible apply e_end);(simp;exact Red.rfl))|((first|((with_reducible apply O1);rfl)|((with_reducible apply O2);rfl));(simp (disch:=omega);exact Red.rfl);exact Red.rfl;(focus (first|(simp;done)|omega|(simp;omega)))))
  (with_reducible apply e_call); (simp; exact Red.rfl); exact cw _ (by simp only [List.append_assoc, rd_old _ hid]; exact hs)
  rintro _ _ ⟨rfl, rfl⟩
  have q2 : ((avR (r1 (wiF (hd true s l))) l.length).drop i).take 1 = [.int .i64 (wiF (hd true s l) i)] := by
    simpa [r1] using (plain_r1 (wiF (hd true s l))).part (n := l.length) (i := i) (c := 0) (m := 1) hi (by omega)
  have l2 := (plain_r1 (wiF (hd true s l))).length l.length
  have le1 : i + 1 ≤ l.length := hi
  repeat ((with_reducible apply O1);rfl;(simp (disch:=omega) [hi, hi2, q2, l2, le1];exact Red.rfl);exact Red.rfl;(focus (first|(simp;done)|omega|(simp;omega))))
  (with_reducible apply e_call); (simp; exact Red.rfl); exact c_speedUp' _ _ (by omega)
  rintro _ _ ⟨rfl, rfl⟩
  repeat (first|(with_reducible first|apply X1|apply X2|apply X8)|((with_reducible apply e_end);(simp;exact Red.rfl))|((with_reducible apply O1);rfl;(simp (disch:=omega);exact Red.rfl);exact Red.rfl;(focus (first|(simp;done)|omega|(simp;omega)))))
  by_cases hz : upV (wiF (hd true s l) i) = 0
  · repeat (first|(with_reducible first|apply X1|apply X2|apply X3|apply X8|apply X9)|((with_reducible apply e_end);(simp;exact Red.rfl))|((with_reducible apply O1);rfl;(simp (disch:=omega) [hz];exact Red.rfl);exact Red.rfl;(focus (first|(simp;done)|omega|(simp;omega))))|((with_reducible apply Z9);(simp (disch:=omega) [hz];exact Red.rfl)))
    refine q_drop (.inr rfl) (by simp; exact Red.rfl) (by simp) ⟨rfl, .inl ⟨hz, rfl⟩⟩
  · repeat (first|(with_reducible first|apply X1|apply X2|apply X5|apply X8)|((with_reducible apply O1);rfl;(simp (disch:=omega) [hz];exact Red.rfl);exact Red.rfl;(focus (first|(simp;done)|omega|(simp;omega))))|((with_reducible apply W3);(simp (disch:=omega) [hz];exact Red.rfl)))
    (with_reducible apply e_call); (simp; exact Red.rfl); exact cl _ (by simp only [List.append_assoc, rd_old _ hid]; exact hs)
    rintro _ _ ⟨rfl, rfl⟩
    generalize hvv : upV (wiF (hd true s l) i) = vv at vb hz
    have hdn : dn true (strAt l i).lLo (strAt l i).lHi = (strAt l i).lLo := rfl
    rw [hdn]
    have hq : ((strAt l i).lLo * 1000 + vv - 1).tdiv vv = lsF (strAt l i).lLo vv := Int.tdiv_eq_ediv_of_nonneg (by omega)
    have lb := lsF_is (L := (strAt l i).lLo) (v := vv) (by omega) (by omega)
    generalize lsF (strAt l i).lLo vv = q at hq lb
    repeat (first|(with_reducible first|apply X3|apply X8)|((with_reducible apply e_end);(simp;exact Red.rfl))|((with_reducible apply O1);rfl;(simp (disch:=omega) [hz, hq];exact Red.rfl);exact Red.rfl;(focus (first|(simp;done)|omega|(simp;omega)))))
    refine q_drop (.inr rfl) (by simp; exact Red.rfl) (by simp) ⟨rfl, .inr ⟨hz, rfl⟩⟩
end Go.Proofs
/- SlideLeast, the law's contract. -/
namespace Go.Proofs
open Go.Abs
attribute [local simp] AOp.den AOpd.ev lk cellsOf rd_new rd_new0 rd_zero rd_succ wr_new wr_new0 wr_zero wr_succ splice fillA binA scal sliceCells List.length_append argsT AV.sc scL AObj.sc resV getAll AR.get AOp.slots opdSlots opdsSlots partSlots eqAt at_new0 at_new set_new0 set_new wrap64
set_option linter.unusedSimpArgs false
set_option linter.unusedVariables false
theorem mod_ex3 {a n : Int} (h0 : 0 ≤ a) (hn : 0 < n) : ∃ x : Nat, a.tmod n = x ∧ (x : Int) < n := by
  refine ⟨(a % n).toNat, ?_, ?_⟩
  · rw [Int.tmod_eq_emod_of_nonneg h0, Int.toNat_of_nonneg (Int.emod_nonneg _ (by omega))]
  · rw [Int.toNat_of_nonneg (Int.emod_nonneg _ (by omega))]; exact Int.emod_lt_of_pos _ hn
set_option maxHeartbeats 4000000 in
theorem c_lawSL (H : Heap) (l : List Str) (s : Sl) (wh : Int) (us : List Int) (id off bid boff : Nat) (ex bex : Bool) (hs : rd H id off (l.length * 9) = some (l.flatMap Str.av)) (hb : rd H bid boff us.length = some (us.map (.int .u32)))
    (hc : 0 ≤ s.c ∧ s.c ≤ 255) (hw : 0 ≤ wh ∧ wh ≤ 255) (hu : ∀ u ∈ us, 0 ≤ u ∧ u ≤ 4294967295) (hn : (us.length : Int) ≤ 9223372036854775807) :
    ACalls Try.prog F.law03_SlideLeast [.agg [.slice id off l.length 9 ex], .agg s.av, .int .u8 wh, .slice bid boff us.length 1 bex] H (fun v _ => v = .bool true) := by
  have hid := rd_lt hs
  have hbid := rd_lt hb
  have ca : ∀ H, ACalls Try.prog F.law03_alive [] H (fun v h => v = .bool true ∧ h = H) := Try.true40
  have cr := fun H' h => c_sready H' l id off ex s h hc
  have ch := fun hv hk H' h => c_sHeads H' l id off ex s h hv hk
  have ct := fun hv hk H' h hb' => c3_truth H' l s us id off bid boff ex bex h hv hk hb' hu hn
  have cl := fun hv hk i hi H' h => c_Least H' l id off ex s h hv hk i hi
  have csp := fun hv hk i hi H' h => c_Speed H' l id off ex s h hv hk i hi
  have cc := fun H' hh x hx hx2 => c3_choose H' us bid boff bex x hh hu hx hx2 hn
  have cg := fun x => chooseF_ge hu x
  simp only [Sl.av] at cr ch ct cl csp ⊢
  refine acalls_of ok_law03_SlideLeast rfl fun hcl => ?_
  unfold ac_law03_SlideLeast
  simp only [argsT, Nat.zero_add, Nat.reduceAdd]
  repeat (first|(with_reducible first|apply X1|apply X2|apply X3|apply X4|apply X5|apply X6|apply X7|apply X8|apply X9|apply Y1|apply Y2|apply Y3|apply Y4|apply Y5|apply Y6|apply Y7|apply Y8|apply Y9)|((with_reducible apply q_block_other);decide)|((with_reducible first|apply e_end|apply d_end);(simp;exact Red.rfl))|((first|((with_reducible apply O1);rfl)|((with_reducible apply O2);rfl)|((with_reducible apply P1);rfl)|((with_reducible apply P2);rfl)|((with_reducible apply P3);rfl)|((with_reducible apply P4);rfl)|((with_reducible apply P5);rfl));(simp (disch:=omega);exact Red.rfl);exact Red.rfl;(focus (first|(simp;done)|omega|(simp;omega))))|((with_reducible first|apply Z7|apply Z8|apply Z9);(simp (disch:=omega);exact Red.rfl))|((with_reducible first|apply Z1|apply Z2|apply Z3|apply Z4|apply Z5|apply Z6);(simp (disch:=omega);exact Red.rfl))|((with_reducible first|apply W1|apply W2|apply W3);(simp (disch:=omega);exact Red.rfl))|((with_reducible apply P6);rfl;(simp (disch:=omega);exact Red.rfl);exact Red.rfl;(focus (first|(simp [pr];done)|(simp [pr];omega))))|((with_reducible apply P7);rfl;(simp (disch:=omega);exact Red.rfl);exact Red.rfl;(focus (simp [repast, pr, AOp.sem];done))))
  (with_reducible apply e_call); (simp; exact Red.rfl); exact ca _
  rintro _ _ ⟨rfl, rfl⟩
  repeat (first|(with_reducible first|apply X1|apply X2|apply X3|apply X4|apply X5|apply X6|apply X7|apply X8|apply X9|apply Y1|apply Y2|apply Y3|apply Y4|apply Y5|apply Y6|apply Y7|apply Y8|apply Y9)|((with_reducible apply q_block_other);decide)|((with_reducible first|apply e_end|apply d_end);(simp;exact Red.rfl))|((first|((with_reducible apply O1);rfl)|((with_reducible apply O2);rfl)|((with_reducible apply P1);rfl)|((with_reducible apply P2);rfl)|((with_reducible apply P3);rfl)|((with_reducible apply P4);rfl)|((with_reducible apply P5);rfl));(simp (disch:=omega);exact Red.rfl);exact Red.rfl;(focus (first|(simp;done)|omega|(simp;omega))))|((with_reducible first|apply Z7|apply Z8|apply Z9);(simp (disch:=omega);exact Red.rfl))|((with_reducible first|apply Z1|apply Z2|apply Z3|apply Z4|apply Z5|apply Z6);(simp (disch:=omega);exact Red.rfl))|((with_reducible first|apply W1|apply W2|apply W3);(simp (disch:=omega);exact Red.rfl))|((with_reducible apply P6);rfl;(simp (disch:=omega);exact Red.rfl);exact Red.rfl;(focus (first|(simp [pr];done)|(simp [pr];omega))))|((with_reducible apply P7);rfl;(simp (disch:=omega);exact Red.rfl);exact Red.rfl;(focus (simp [repast, pr, AOp.sem];done))))
  (with_reducible apply e_call); (simp; exact Red.rfl); exact cr _ (by rw [rd_old _ hid]; exact hs)
  rintro _ _ ⟨rfl, b, rfl, hbv⟩
  cases b with
  | false =>
    repeat (first|(with_reducible first|apply X1|apply X2|apply X3|apply X4|apply X5|apply X6|apply X7|apply X8|apply X9|apply Y1|apply Y2|apply Y3|apply Y4|apply Y5|apply Y6|apply Y7|apply Y8|apply Y9)|((with_reducible apply q_block_other);decide)|((with_reducible first|apply e_end|apply d_end);(simp;exact Red.rfl))|((first|((with_reducible apply O1);rfl)|((with_reducible apply O2);rfl)|((with_reducible apply P1);rfl)|((with_reducible apply P2);rfl)|((with_reducible apply P3);rfl)|((with_reducible apply P4);rfl)|((with_reducible apply P5);rfl));(simp (disch:=omega);exact Red.rfl);exact Red.rfl;(focus (first|(simp;done)|omega|(simp;omega))))|((with_reducible first|apply Z7|apply Z8|apply Z9);(simp (disch:=omega);exact Red.rfl))|((with_reducible first|apply Z1|apply Z2|apply Z3|apply Z4|apply Z5|apply Z6);(simp (disch:=omega);exact Red.rfl))|((with_reducible first|apply W1|apply W2|apply W3);(simp (disch:=omega);exact Red.rfl))|((with_reducible apply P6);rfl;(simp (disch:=omega);exact Red.rfl);exact Red.rfl;(focus (first|(simp [pr];done)|(simp [pr];omega))))|((with_reducible apply P7);rfl;(simp (disch:=omega);exact Red.rfl);exact Red.rfl;(focus (simp [repast, pr, AOp.sem];done))))
    refine q_drop (.inr rfl) (by simp; exact Red.rfl) (by simp) rfl
  | true =>
    obtain ⟨hv, hk⟩ := hbv.1 rfl
    have h12 := hv.1
    obtain ⟨i, hi1, hi2⟩ := mod_ex3 (n := (l.length : Int)) hw.1 (by omega)
    have hi : i < l.length := by omega
    have hne : ¬ ((l.length : Int) = 0) := by omega
    have hne2 : ¬ (l = []) := by rintro rfl; simp at hi
    repeat (first|(with_reducible first|apply X1|apply X2|apply X3|apply X4|apply X5|apply X6|apply X7|apply X8|apply X9|apply Y1|apply Y2|apply Y3|apply Y4|apply Y5|apply Y6|apply Y7|apply Y8|apply Y9)|((with_reducible apply q_block_other);decide)|((with_reducible first|apply e_end|apply d_end);(simp;exact Red.rfl))|((first|((with_reducible apply O1);rfl)|((with_reducible apply O2);rfl)|((with_reducible apply P1);rfl)|((with_reducible apply P2);rfl)|((with_reducible apply P3);rfl)|((with_reducible apply P4);rfl)|((with_reducible apply P5);rfl));(simp (disch:=omega) [hi1, hne, hne2];exact Red.rfl);exact Red.rfl;(focus (first|(simp;done)|omega|(simp;omega))))|((with_reducible first|apply Z7|apply Z8|apply Z9);(simp (disch:=omega) [hi1, hne, hne2];exact Red.rfl))|((with_reducible first|apply Z1|apply Z2|apply Z3|apply Z4|apply Z5|apply Z6);(simp (disch:=omega) [hi1, hne, hne2];exact Red.rfl))|((with_reducible first|apply W1|apply W2|apply W3);(simp (disch:=omega) [hi1, hne, hne2];exact Red.rfl))|((with_reducible apply P6);rfl;(simp (disch:=omega) [hi1, hne, hne2];exact Red.rfl);exact Red.rfl;(focus (first|(simp [pr];done)|(simp [pr];omega))))|((with_reducible apply P7);rfl;(simp (disch:=omega) [hi1, hne, hne2];exact Red.rfl);exact Red.rfl;(focus (simp [repast, pr, AOp.sem];done))))
    (with_reducible apply e_call); (simp; exact Red.rfl); exact cl hv hk i hi _ (by simp only [List.append_assoc, rd_old _ hid]; exact hs)
    rintro _ _ ⟨rfl, hle⟩
    have b0 := hd_bd hv hk true (i := i) (by omega)
    have b1 := hd_bd hv hk true (i := i + 1) (by omega)
    have cb2 := wi_bd hv hk true hi
    have vb := up_bd cb2
    have hL := (str_ok hv hi).2.2.1
    have i2 : i + 1 < l.length + 1 := by omega
    have i3 : i < l.length + 1 := by omega
    have i2' : (i : Int) + 1 < (l.length : Int) + 1 := by omega
    have i3' : (i : Int) < (l.length : Int) + 1 := by omega
    have lR := (plain_r2 (hd false s l) (hd true s l)).length (l.length + 1)
    have rR0 := (plain_r2 (hd false s l) (hd true s l)).part (n := l.length + 1) (i := i) (c := 1) (m := 1) i3 (by omega)
    have rR1 := (plain_r2 (hd false s l) (hd true s l)).part (n := l.length + 1) (i := i + 1) (c := 1) (m := 1) i2 (by omega)
    simp only [r2, List.drop_zero, List.take_succ_cons, List.take_zero, Nat.add_zero, List.drop_succ_cons] at rR0 rR1
    have le1 : i * 2 + 1 + 1 ≤ (l.length + 1) * 2 := by omega
    have le2 : (i + 1) * 2 + 1 + 1 ≤ (l.length + 1) * 2 := by omega
    rcases hle with ⟨hz, rfl⟩ | ⟨hz, rfl⟩
    · repeat (first|(with_reducible first|apply X1|apply X2|apply X3|apply X4|apply X5|apply X6|apply X7|apply X8|apply X9|apply Y1|apply Y2|apply Y3|apply Y4|apply Y5|apply Y6|apply Y7|apply Y8|apply Y9)|((with_reducible apply q_block_other);decide)|((with_reducible first|apply e_end|apply d_end);(simp;exact Red.rfl))|((first|((with_reducible apply O1);rfl)|((with_reducible apply O2);rfl)|((with_reducible apply P1);rfl)|((with_reducible apply P2);rfl)|((with_reducible apply P3);rfl)|((with_reducible apply P4);rfl)|((with_reducible apply P5);rfl));(simp (disch:=omega);exact Red.rfl);exact Red.rfl;(focus (first|(simp;done)|omega|(simp;omega))))|((with_reducible first|apply Z7|apply Z8|apply Z9);(simp (disch:=omega);exact Red.rfl))|((with_reducible first|apply Z1|apply Z2|apply Z3|apply Z4|apply Z5|apply Z6);(simp (disch:=omega);exact Red.rfl))|((with_reducible first|apply W1|apply W2|apply W3);(simp (disch:=omega);exact Red.rfl))|((with_reducible apply P6);rfl;(simp (disch:=omega);exact Red.rfl);exact Red.rfl;(focus (first|(simp [pr];done)|(simp [pr];omega))))|((with_reducible apply P7);rfl;(simp (disch:=omega);exact Red.rfl);exact Red.rfl;(focus (simp [repast, pr, AOp.sem];done))))
      (with_reducible apply e_call); (simp; exact Red.rfl); exact ch hv hk _ (by simp only [List.append_assoc, rd_old _ hid]; exact hs)
      rintro _ _ ⟨rfl, rfl⟩
      repeat (first|(with_reducible first|apply X1|apply X2|apply X3|apply X4|apply X5|apply X6|apply X7|apply X8|apply X9|apply Y1|apply Y2|apply Y3|apply Y4|apply Y5|apply Y6|apply Y7|apply Y8|apply Y9)|((with_reducible apply q_block_other);decide)|((with_reducible first|apply e_end|apply d_end);(simp;exact Red.rfl))|((first|((with_reducible apply O1);rfl)|((with_reducible apply O2);rfl)|((with_reducible apply P1);rfl)|((with_reducible apply P2);rfl)|((with_reducible apply P3);rfl)|((with_reducible apply P4);rfl)|((with_reducible apply P5);rfl));(simp (disch:=omega);exact Red.rfl);exact Red.rfl;(focus (first|(simp;done)|omega|(simp;omega))))|((with_reducible first|apply Z7|apply Z8|apply Z9);(simp (disch:=omega);exact Red.rfl))|((with_reducible first|apply Z1|apply Z2|apply Z3|apply Z4|apply Z5|apply Z6);(simp (disch:=omega);exact Red.rfl))|((with_reducible first|apply W1|apply W2|apply W3);(simp (disch:=omega);exact Red.rfl))|((with_reducible apply P6);rfl;(simp (disch:=omega);exact Red.rfl);exact Red.rfl;(focus (first|(simp [pr];done)|(simp [pr];omega))))|((with_reducible apply P7);rfl;(simp (disch:=omega);exact Red.rfl);exact Red.rfl;(focus (simp [repast, pr, AOp.sem];done))))
      (with_reducible apply e_call); (simp; exact Red.rfl); exact ct hv hk _ (by simp only [List.append_assoc, rd_old _ hid]; exact hs) (by simp only [List.append_assoc, rd_old _ hbid]; exact hb)
      rintro _ _ ⟨rfl, rfl⟩
      repeat (first|(with_reducible first|apply X1|apply X2|apply X3|apply X4|apply X5|apply X6|apply X7|apply X8|apply X9|apply Y1|apply Y2|apply Y3|apply Y4|apply Y5|apply Y6|apply Y7|apply Y8|apply Y9)|((with_reducible apply q_block_other);decide)|((with_reducible first|apply e_end|apply d_end);(simp;exact Red.rfl))|((first|((with_reducible apply O1);rfl)|((with_reducible apply O2);rfl)|((with_reducible apply P1);rfl)|((with_reducible apply P2);rfl)|((with_reducible apply P3);rfl)|((with_reducible apply P4);rfl)|((with_reducible apply P5);rfl));(simp (disch:=omega);exact Red.rfl);exact Red.rfl;(focus (first|(simp;done)|omega|(simp;omega))))|((with_reducible first|apply Z7|apply Z8|apply Z9);(simp (disch:=omega);exact Red.rfl))|((with_reducible first|apply Z1|apply Z2|apply Z3|apply Z4|apply Z5|apply Z6);(simp (disch:=omega);exact Red.rfl))|((with_reducible first|apply W1|apply W2|apply W3);(simp (disch:=omega);exact Red.rfl))|((with_reducible apply P6);rfl;(simp (disch:=omega);exact Red.rfl);exact Red.rfl;(focus (first|(simp [pr];done)|(simp [pr];omega))))|((with_reducible apply P7);rfl;(simp (disch:=omega);exact Red.rfl);exact Red.rfl;(focus (simp [repast, pr, AOp.sem];done))))
      (with_reducible apply e_call); (simp; exact Red.rfl); exact c_Drop _ l id off ex i (i + 1) (by simp only [List.append_assoc, rd_old _ hid]; exact hs) hv (by omega) (by omega)
      rintro _ _ ⟨rfl, rfl⟩
      have hw0 := (up_zero cb2.1).1 hz
      have hmx : (if hd true s l i < hd true s l (i + 1) then hd true s l (i + 1) else hd true s l i) = 0 := by
        unfold wiF at hw0; split <;> omega
      repeat (first|(with_reducible first|apply X1|apply X2|apply X3|apply X4|apply X5|apply X6|apply X7|apply X8|apply X9|apply Y1|apply Y2|apply Y3|apply Y4|apply Y5|apply Y6|apply Y7|apply Y8|apply Y9)|((with_reducible apply q_block_other);decide)|((with_reducible first|apply e_end|apply d_end);(simp;exact Red.rfl))|((first|((with_reducible apply O1);rfl)|((with_reducible apply O2);rfl)|((with_reducible apply P1);rfl)|((with_reducible apply P2);rfl)|((with_reducible apply P3);rfl)|((with_reducible apply P4);rfl)|((with_reducible apply P5);rfl));(simp (disch:=omega) [hne, i2, i3, i2', i3', lR, rR0, rR1, le1, le2, hmx];exact Red.rfl);exact Red.rfl;(focus (first|(simp;done)|omega|(simp;omega))))|((with_reducible first|apply Z7|apply Z8|apply Z9);(simp (disch:=omega) [hne, i2, i3, i2', i3', lR, rR0, rR1, le1, le2, hmx];exact Red.rfl))|((with_reducible first|apply Z1|apply Z2|apply Z3|apply Z4|apply Z5|apply Z6);(simp (disch:=omega) [hne, i2, i3, i2', i3', lR, rR0, rR1, le1, le2, hmx];exact Red.rfl))|((with_reducible first|apply W1|apply W2|apply W3);(simp (disch:=omega) [hne, i2, i3, i2', i3', lR, rR0, rR1, le1, le2, hmx];exact Red.rfl))|((with_reducible apply P6);rfl;(simp (disch:=omega) [hne, i2, i3, i2', i3', lR, rR0, rR1, le1, le2, hmx];exact Red.rfl);exact Red.rfl;(focus (first|(simp [pr];done)|(simp [pr];omega))))|((with_reducible apply P7);rfl;(simp (disch:=omega) [hne, i2, i3, i2', i3', lR, rR0, rR1, le1, le2, hmx];exact Red.rfl);exact Red.rfl;(focus (simp [repast, pr, AOp.sem];done))))
      refine q_drop (.inr rfl) (by simp; exact Red.rfl) (by simp) rfl
    · have lb := lsF_is (L := (strAt l i).lLo) (v := upV (wiF (hd true s l) i)) (by omega) (by omega)
      generalize hq : lsF (strAt l i).lLo (upV (wiF (hd true s l) i)) = q at lb
      repeat (first|(with_reducible first|apply X1|apply X2|apply X3|apply X4|apply X5|apply X6|apply X7|apply X8|apply X9|apply Y1|apply Y2|apply Y3|apply Y4|apply Y5|apply Y6|apply Y7|apply Y8|apply Y9)|((with_reducible apply q_block_other);decide)|((with_reducible first|apply e_end|apply d_end);(simp;exact Red.rfl))|((first|((with_reducible apply O1);rfl)|((with_reducible apply O2);rfl)|((with_reducible apply P1);rfl)|((with_reducible apply P2);rfl)|((with_reducible apply P3);rfl)|((with_reducible apply P4);rfl)|((with_reducible apply P5);rfl));(simp (disch:=omega);exact Red.rfl);exact Red.rfl;(focus (first|(simp;done)|omega|(simp;omega))))|((with_reducible first|apply Z7|apply Z8|apply Z9);(simp (disch:=omega);exact Red.rfl))|((with_reducible first|apply Z1|apply Z2|apply Z3|apply Z4|apply Z5|apply Z6);(simp (disch:=omega);exact Red.rfl))|((with_reducible first|apply W1|apply W2|apply W3);(simp (disch:=omega);exact Red.rfl))|((with_reducible apply P6);rfl;(simp (disch:=omega);exact Red.rfl);exact Red.rfl;(focus (first|(simp [pr];done)|(simp [pr];omega))))|((with_reducible apply P7);rfl;(simp (disch:=omega);exact Red.rfl);exact Red.rfl;(focus (simp [repast, pr, AOp.sem];done))))
      (with_reducible apply e_call); (simp; exact Red.rfl); exact ch hv hk _ (by simp only [List.append_assoc, rd_old _ hid]; exact hs)
      rintro _ _ ⟨rfl, rfl⟩
      repeat (first|(with_reducible first|apply X1|apply X2|apply X3|apply X4|apply X5|apply X6|apply X7|apply X8|apply X9|apply Y1|apply Y2|apply Y3|apply Y4|apply Y5|apply Y6|apply Y7|apply Y8|apply Y9)|((with_reducible apply q_block_other);decide)|((with_reducible first|apply e_end|apply d_end);(simp;exact Red.rfl))|((first|((with_reducible apply O1);rfl)|((with_reducible apply O2);rfl)|((with_reducible apply P1);rfl)|((with_reducible apply P2);rfl)|((with_reducible apply P3);rfl)|((with_reducible apply P4);rfl)|((with_reducible apply P5);rfl));(simp (disch:=omega);exact Red.rfl);exact Red.rfl;(focus (first|(simp;done)|omega|(simp;omega))))|((with_reducible first|apply Z7|apply Z8|apply Z9);(simp (disch:=omega);exact Red.rfl))|((with_reducible first|apply Z1|apply Z2|apply Z3|apply Z4|apply Z5|apply Z6);(simp (disch:=omega);exact Red.rfl))|((with_reducible first|apply W1|apply W2|apply W3);(simp (disch:=omega);exact Red.rfl))|((with_reducible apply P6);rfl;(simp (disch:=omega);exact Red.rfl);exact Red.rfl;(focus (first|(simp [pr];done)|(simp [pr];omega))))|((with_reducible apply P7);rfl;(simp (disch:=omega);exact Red.rfl);exact Red.rfl;(focus (simp [repast, pr, AOp.sem];done))))
      (with_reducible apply e_call); (simp; exact Red.rfl); exact ct hv hk _ (by simp only [List.append_assoc, rd_old _ hid]; exact hs) (by simp only [List.append_assoc, rd_old _ hbid]; exact hb)
      rintro _ _ ⟨rfl, rfl⟩
      repeat (first|(with_reducible first|apply X1|apply X2|apply X3|apply X4|apply X5|apply X6|apply X7|apply X8|apply X9|apply Y1|apply Y2|apply Y3|apply Y4|apply Y5|apply Y6|apply Y7|apply Y8|apply Y9)|((with_reducible apply q_block_other);decide)|((with_reducible first|apply e_end|apply d_end);(simp;exact Red.rfl))|((first|((with_reducible apply O1);rfl)|((with_reducible apply O2);rfl)|((with_reducible apply P1);rfl)|((with_reducible apply P2);rfl)|((with_reducible apply P3);rfl)|((with_reducible apply P4);rfl)|((with_reducible apply P5);rfl));(simp (disch:=omega);exact Red.rfl);exact Red.rfl;(focus (first|(simp;done)|omega|(simp;omega))))|((with_reducible first|apply Z7|apply Z8|apply Z9);(simp (disch:=omega);exact Red.rfl))|((with_reducible first|apply Z1|apply Z2|apply Z3|apply Z4|apply Z5|apply Z6);(simp (disch:=omega);exact Red.rfl))|((with_reducible first|apply W1|apply W2|apply W3);(simp (disch:=omega);exact Red.rfl))|((with_reducible apply P6);rfl;(simp (disch:=omega);exact Red.rfl);exact Red.rfl;(focus (first|(simp [pr];done)|(simp [pr];omega))))|((with_reducible apply P7);rfl;(simp (disch:=omega);exact Red.rfl);exact Red.rfl;(focus (simp [repast, pr, AOp.sem];done))))
      (with_reducible apply e_call); (simp; exact Red.rfl); exact c_Drop _ l id off ex i (i + 1) (by simp only [List.append_assoc, rd_old _ hid]; exact hs) hv (by omega) (by omega)
      rintro _ _ ⟨rfl, rfl⟩
      have hsum : sumF (kLo kLong l) i (i + 1 - i) = (strAt l i).lLo := by
        rw [show i + 1 - i = 1 by omega]; simp [sumF, kLo, kLong]
      rw [hsum]
      repeat (first|(with_reducible first|apply X1|apply X2|apply X3|apply X4|apply X5|apply X6|apply X7|apply X8|apply X9|apply Y1|apply Y2|apply Y3|apply Y4|apply Y5|apply Y6|apply Y7|apply Y8|apply Y9)|((with_reducible apply q_block_other);decide)|((with_reducible first|apply e_end|apply d_end);(simp;exact Red.rfl))|((first|((with_reducible apply O1);rfl)|((with_reducible apply O2);rfl)|((with_reducible apply P1);rfl)|((with_reducible apply P2);rfl)|((with_reducible apply P3);rfl)|((with_reducible apply P4);rfl)|((with_reducible apply P5);rfl));(simp (disch:=omega);exact Red.rfl);exact Red.rfl;(focus (first|(simp;done)|omega|(simp;omega))))|((with_reducible first|apply Z7|apply Z8|apply Z9);(simp (disch:=omega);exact Red.rfl))|((with_reducible first|apply Z1|apply Z2|apply Z3|apply Z4|apply Z5|apply Z6);(simp (disch:=omega);exact Red.rfl))|((with_reducible first|apply W1|apply W2|apply W3);(simp (disch:=omega);exact Red.rfl))|((with_reducible apply P6);rfl;(simp (disch:=omega);exact Red.rfl);exact Red.rfl;(focus (first|(simp [pr];done)|(simp [pr];omega))))|((with_reducible apply P7);rfl;(simp (disch:=omega);exact Red.rfl);exact Red.rfl;(focus (simp [repast, pr, AOp.sem];done))))
      (with_reducible apply e_call); (simp; exact Red.rfl); exact csp hv hk i (by omega) _ (by simp only [List.append_assoc, rd_old _ hid]; exact hs)
      rintro _ _ ⟨rfl, rfl⟩
      repeat (first|(with_reducible first|apply X1|apply X2|apply X3|apply X4|apply X5|apply X6|apply X7|apply X8|apply X9|apply Y1|apply Y2|apply Y3|apply Y4|apply Y5|apply Y6|apply Y7|apply Y8|apply Y9)|((with_reducible apply q_block_other);decide)|((with_reducible first|apply e_end|apply d_end);(simp;exact Red.rfl))|((first|((with_reducible apply O1);rfl)|((with_reducible apply O2);rfl)|((with_reducible apply P1);rfl)|((with_reducible apply P2);rfl)|((with_reducible apply P3);rfl)|((with_reducible apply P4);rfl)|((with_reducible apply P5);rfl));(simp (disch:=omega);exact Red.rfl);exact Red.rfl;(focus (first|(simp;done)|omega|(simp;omega))))|((with_reducible first|apply Z7|apply Z8|apply Z9);(simp (disch:=omega);exact Red.rfl))|((with_reducible first|apply Z1|apply Z2|apply Z3|apply Z4|apply Z5|apply Z6);(simp (disch:=omega);exact Red.rfl))|((with_reducible first|apply W1|apply W2|apply W3);(simp (disch:=omega);exact Red.rfl))|((with_reducible apply P6);rfl;(simp (disch:=omega);exact Red.rfl);exact Red.rfl;(focus (first|(simp [pr];done)|(simp [pr];omega))))|((with_reducible apply P7);rfl;(simp (disch:=omega);exact Red.rfl);exact Red.rfl;(focus (simp [repast, pr, AOp.sem];done))))
      (with_reducible apply e_call); (simp; exact Red.rfl); exact csp hv hk (i + 1) (by omega) _ (by simp only [List.append_assoc, rd_old _ hid]; exact hs)
      rintro _ _ ⟨rfl, rfl⟩
      have hmx : (if upV (hd true s l i) < upV (hd true s l (i + 1)) then upV (hd true s l (i + 1)) else upV (hd true s l i)) = upV (wiF (hd true s l) i) := by
        unfold wiF; rw [← up_max b0.1 b1.1]; split <;> omega
      have cb3 : 0 ≤ wiF (cH us s l) i ∧ wiF (cH us s l) i ≤ wiF (hd true s l) i := by
        have e1 := cH_in (us := us) hv hk (i := i) (by omega)
        have e2 := cH_in (us := us) hv hk (i := i + 1) (by omega)
        have e3 := cH_bd (us := us) hv hk (i := i) (by omega)
        unfold wiF; omega
      have cb4 := (up_facts cb2 cb3.2).2.2.1
      generalize upV (wiF (hd true s l) i) = vv at vb hz lb hmx cb4
      have hsel : ∀ x, (strAt l i).lLo ≤ someG (strAt l i).lLo (strAt l i).lHi x := fun x => (someG_in (by omega)).1
      have hx := rd_row Str.av_length hs hi
      have hst := strAt_eq hi
      rw [hst] at lb hL hsel ⊢
      generalize hsi : l[i] = st at hx lb hL hsel ⊢
      obtain ⟨a1, L, a3, a4, a5, a6, a7, a8, a9⟩ := st
      simp only [Str.av] at hx
      have hx2 : rd H id (off + i * 9 + 1) 2 = some [.int .i64 L, .int .i64 a3] := by simpa using rd_sub hx (show 1 + 2 ≤ 9 by omega)
      dsimp only at lb hL hsel ⊢
      have n1 : ¬ q < 1 := by omega
      have n2 : ¬ q * vv < L * 1000 := by omega
      have n3 : ¬ L * 1000 ≤ (q - 1) * vv := by omega
      have m0 : (q - 1) * vv ≤ q * vv := Int.mul_le_mul_of_nonneg_right (by omega) (by omega)
      have m1 : q * vv ≤ 30000000 * 510120001 := Int.mul_le_mul (by omega) (by omega) (by omega) (by omega)
      have m2 : 0 ≤ (q - 1) * vv := Int.mul_nonneg (by omega) (by omega)
      repeat (first|(with_reducible first|apply X1|apply X2|apply X3|apply X4|apply X5|apply X6|apply X7|apply X8|apply X9|apply Y1|apply Y2|apply Y3|apply Y4|apply Y5|apply Y6|apply Y7|apply Y8|apply Y9)|((with_reducible apply q_block_other);decide)|((with_reducible first|apply e_end|apply d_end);(simp;exact Red.rfl))|((first|((with_reducible apply O1);rfl)|((with_reducible apply O2);rfl)|((with_reducible apply P1);rfl)|((with_reducible apply P2);rfl)|((with_reducible apply P3);rfl)|((with_reducible apply P4);rfl)|((with_reducible apply P5);rfl));(simp (disch:=omega) [hmx, n1, n2, n3];exact Red.rfl);exact Red.rfl;(focus (first|(simp;done)|omega|(simp;omega))))|((with_reducible first|apply Z7|apply Z8|apply Z9);(simp (disch:=omega) [hmx, n1, n2, n3];exact Red.rfl))|((with_reducible first|apply Z1|apply Z2|apply Z3|apply Z4|apply Z5|apply Z6);(simp (disch:=omega) [hmx, n1, n2, n3];exact Red.rfl))|((with_reducible first|apply W1|apply W2|apply W3);(simp (disch:=omega) [hmx, n1, n2, n3];exact Red.rfl))|((with_reducible apply P6);rfl;(simp (disch:=omega) [hmx, n1, n2, n3];exact Red.rfl);exact Red.rfl;(focus (first|(simp [pr];done)|(simp [pr];omega))))|((with_reducible apply P7);rfl;(simp (disch:=omega) [hmx, n1, n2, n3];exact Red.rfl);exact Red.rfl;(focus (simp [repast, pr, AOp.sem];done))))
      have hW := cb3
      have g0 := rowL (f := cH us s l) i3
      have g1 := rowL (f := cH us s l) i2
      have gl := avL_length (cH us s l) (l.length + 1)
      have le3 : i + 1 ≤ l.length + 1 := by omega
      have le4 : i + 1 + 1 ≤ l.length + 1 := by omega
      have hmx2 : (if cH us s l i < cH us s l (i + 1) then cH us s l (i + 1) else cH us s l i) = wiF (cH us s l) i := by
        unfold wiF; split <;> omega
      refine e_loop (ι := { w : Int // 0 ≤ w ∧ w ≤ vv })
        (fun w => [(3, .slice bid boff us.length 1 bex), (4, .ptr H.length 0), (9, .bool true), (10, .int .i64 i), (11, .int .i64 q), (15, .slice (H.length + 3) 0 (l.length + 1) 1 false), (24, .int .i64 vv), (25, .int .i64 w.1)])
        (fun _ => H ++ [.cells [.slice id off l.length 9 ex] true, .cells [.int .u8 s.c, .int .i64 s.s1, .int .i64 s.s2, .int .i64 s.r1, .int .i64 s.r2, .int .i64 s.d1, .int .i64 s.d2, .int .i64 s.w1, .int .i64 s.w2, .int .i64 s.t1, .int .i64 s.t2] true, .cells (avR (r2 (hd false s l) (hd true s l)) (l.length + 1)) true, .cells (avL (cH us s l) (l.length + 1)) true, .cells (avL (cU us s l) l.length) true, .cells [.int .i64 L, .int .i64 (sumF (kHi kLong l) i 1)] true, .cells [.int .i64 (sumF (kLo kFall l) i 1), .int .i64 (sumF (kHi kFall l) i 1)] true, .cells [.int .i64 (dnV (hd false s l i)), .int .i64 (upV (hd true s l i))] true, .cells [.int .i64 (dnV (hd false s l (i + 1))), .int .i64 (upV (hd true s l (i + 1)))] true]) (fun w => (vv - w.1).toNat) ⟨0, by omega, by omega⟩ ?_ ?_
      · exact .inl rfl
      · rintro ⟨w, hw0, hw1⟩
        dsimp only
        have p0 : 0 ≤ w * w := Int.mul_nonneg hw0 hw0
        have p1 : w * w ≤ 510120001 * 510120001 := Int.mul_le_mul (by omega) (by omega) hw0 (by omega)
        have p2 : 10 * w * w = 10 * (w * w) := Int.mul_assoc _ _ _
        have p3 : 0 ≤ 10 * w * w := by omega
        have p4 : 10 * w * w ≤ 10 * 510120001 * 510120001 := by omega
        by_cases hlt : 10 * w * w < 1962 * wiF (cH us s l) i
        · have hwv : w < vv := by
            rcases Int.lt_or_le w vv with h | h
            · exact h
            · obtain rfl : w = vv := by omega
              omega
          repeat (first|(with_reducible first|apply X1|apply X2|apply X3|apply X4|apply X5|apply X6|apply X7|apply X8|apply X9|apply Y1|apply Y2|apply Y3|apply Y4|apply Y5|apply Y6|apply Y7|apply Y8|apply Y9)|((with_reducible apply q_block_other);decide)|((with_reducible first|apply e_end|apply d_end);(simp;exact Red.rfl))|((first|((with_reducible apply O1);rfl)|((with_reducible apply O2);rfl)|((with_reducible apply P1);rfl)|((with_reducible apply P2);rfl)|((with_reducible apply P3);rfl)|((with_reducible apply P4);rfl)|((with_reducible apply P5);rfl));(simp (disch:=omega) [i2, i3, i2', i3', g0, g1, gl, le3, le4, hmx2, hlt];exact Red.rfl);exact Red.rfl;(focus (first|(simp;done)|omega|(simp;omega))))|((with_reducible first|apply Z7|apply Z8|apply Z9);(simp (disch:=omega) [i2, i3, i2', i3', g0, g1, gl, le3, le4, hmx2, hlt];exact Red.rfl))|((with_reducible first|apply Z1|apply Z2|apply Z3|apply Z4|apply Z5|apply Z6);(simp (disch:=omega) [i2, i3, i2', i3', g0, g1, gl, le3, le4, hmx2, hlt];exact Red.rfl))|((with_reducible first|apply W1|apply W2|apply W3);(simp (disch:=omega) [i2, i3, i2', i3', g0, g1, gl, le3, le4, hmx2, hlt];exact Red.rfl))|((with_reducible apply P6);rfl;(simp (disch:=omega) [i2, i3, i2', i3', g0, g1, gl, le3, le4, hmx2, hlt];exact Red.rfl);exact Red.rfl;(focus (first|(simp [pr];done)|(simp [pr];omega))))|((with_reducible apply P7);rfl;(simp (disch:=omega) [i2, i3, i2', i3', g0, g1, gl, le3, le4, hmx2, hlt];exact Red.rfl);exact Red.rfl;(focus (simp [repast, pr, AOp.sem];done))))
          exact q_again ⟨w + 1, by omega, by omega⟩ (by dsimp only; omega) (.inl rfl)
        · have m3 : 0 ≤ (q - 1) * w := Int.mul_nonneg (by omega) hw0
          have m4 : (q - 1) * w ≤ (q - 1) * vv := Int.mul_le_mul_of_nonneg_left hw1 (by omega)
          have hi' : (i : Int) < l.length := by omega
          repeat (first|(with_reducible first|apply X1|apply X2|apply X3|apply X4|apply X5|apply X6|apply X7|apply X8|apply X9|apply Y1|apply Y2|apply Y3|apply Y4|apply Y5|apply Y6|apply Y7|apply Y8|apply Y9)|((with_reducible apply q_block_other);decide)|((with_reducible first|apply e_end|apply d_end);(simp;exact Red.rfl))|((first|((with_reducible apply O1);rfl)|((with_reducible apply O2);rfl)|((with_reducible apply P1);rfl)|((with_reducible apply P2);rfl)|((with_reducible apply P3);rfl)|((with_reducible apply P4);rfl)|((with_reducible apply P5);rfl));(simp (disch:=omega) [i2, i3, i2', i3', g0, g1, gl, le3, le4, hmx2, hlt, hw1, hi, hi', rd_old _ hid, hx2];exact Red.rfl);exact Red.rfl;(focus (first|(simp;done)|omega|(simp;omega))))|((with_reducible first|apply Z7|apply Z8|apply Z9);(simp (disch:=omega) [i2, i3, i2', i3', g0, g1, gl, le3, le4, hmx2, hlt, hw1, hi, hi', rd_old _ hid, hx2];exact Red.rfl))|((with_reducible first|apply Z1|apply Z2|apply Z3|apply Z4|apply Z5|apply Z6);(simp (disch:=omega) [i2, i3, i2', i3', g0, g1, gl, le3, le4, hmx2, hlt, hw1, hi, hi', rd_old _ hid, hx2];exact Red.rfl))|((with_reducible first|apply W1|apply W2|apply W3);(simp (disch:=omega) [i2, i3, i2', i3', g0, g1, gl, le3, le4, hmx2, hlt, hw1, hi, hi', rd_old _ hid, hx2];exact Red.rfl))|((with_reducible apply P6);rfl;(simp (disch:=omega) [i2, i3, i2', i3', g0, g1, gl, le3, le4, hmx2, hlt, hw1, hi, hi', rd_old _ hid, hx2];exact Red.rfl);exact Red.rfl;(focus (first|(simp [pr];done)|(simp [pr];omega))))|((with_reducible apply P7);rfl;(simp (disch:=omega) [i2, i3, i2', i3', g0, g1, gl, le3, le4, hmx2, hlt, hw1, hi, hi', rd_old _ hid, hx2];exact Red.rfl);exact Red.rfl;(focus (simp [repast, pr, AOp.sem];done))))
          (with_reducible apply d_call); (simp; exact Red.rfl); exact cc _ (by simp only [List.append_assoc, rd_old _ hbid]; exact hb) _ (by omega) (by omega); (focus (first | (simp; done) | (simp; omega)))
          repeat (first|(with_reducible first|apply X1|apply X2|apply X3|apply X4|apply X5|apply X6|apply X7|apply X8|apply X9|apply Y1|apply Y2|apply Y3|apply Y4|apply Y5|apply Y6|apply Y7|apply Y8|apply Y9)|((with_reducible apply q_block_other);decide)|((with_reducible first|apply e_end|apply d_end);(simp;exact Red.rfl))|((first|((with_reducible apply O1);rfl)|((with_reducible apply O2);rfl)|((with_reducible apply P1);rfl)|((with_reducible apply P2);rfl)|((with_reducible apply P3);rfl)|((with_reducible apply P4);rfl)|((with_reducible apply P5);rfl));(simp (disch:=omega);exact Red.rfl);exact Red.rfl;(focus (first|(simp;done)|omega|(simp;omega))))|((with_reducible first|apply Z7|apply Z8|apply Z9);(simp (disch:=omega);exact Red.rfl))|((with_reducible first|apply Z1|apply Z2|apply Z3|apply Z4|apply Z5|apply Z6);(simp (disch:=omega);exact Red.rfl))|((with_reducible first|apply W1|apply W2|apply W3);(simp (disch:=omega);exact Red.rfl))|((with_reducible apply P6);rfl;(simp (disch:=omega);exact Red.rfl);exact Red.rfl;(focus (first|(simp [pr];done)|(simp [pr];omega))))|((with_reducible apply P7);rfl;(simp (disch:=omega);exact Red.rfl);exact Red.rfl;(focus (simp [repast, pr, AOp.sem];done))))
          (with_reducible apply d_call); (simp; exact Red.rfl); exact c3_some _ _ _ _ (by omega) (by omega) (by omega) (cg _).1 (cg _).2; (focus (first | (simp; done) | (simp; omega)))
          have hs1 := hsel (chooseF us (3 + 5 * (i : Int)))
          have hs2 := (sg_bd (b := chooseF us (3 + 5 * (i : Int))) hL.1 (Int.le_refl L) (Int.le_refl a3)).2
          have fin : (q - 1) * w < someG L a3 (chooseF us (3 + 5 * (i : Int))) * 1000 := by omega
          repeat (first|(with_reducible first|apply X1|apply X2|apply X3|apply X4|apply X5|apply X6|apply X7|apply X8|apply X9|apply Y1|apply Y2|apply Y3|apply Y4|apply Y5|apply Y6|apply Y7|apply Y8|apply Y9)|((with_reducible apply q_block_other);decide)|((with_reducible first|apply e_end|apply d_end);(simp;exact Red.rfl))|((first|((with_reducible apply O1);rfl)|((with_reducible apply O2);rfl)|((with_reducible apply P1);rfl)|((with_reducible apply P2);rfl)|((with_reducible apply P3);rfl)|((with_reducible apply P4);rfl)|((with_reducible apply P5);rfl));(simp (disch:=omega) [fin];exact Red.rfl);exact Red.rfl;(focus (first|(simp;done)|omega|(simp;omega))))|((with_reducible first|apply Z7|apply Z8|apply Z9);(simp (disch:=omega) [fin];exact Red.rfl))|((with_reducible first|apply Z1|apply Z2|apply Z3|apply Z4|apply Z5|apply Z6);(simp (disch:=omega) [fin];exact Red.rfl))|((with_reducible first|apply W1|apply W2|apply W3);(simp (disch:=omega) [fin];exact Red.rfl))|((with_reducible apply P6);rfl;(simp (disch:=omega) [fin];exact Red.rfl);exact Red.rfl;(focus (first|(simp [pr];done)|(simp [pr];omega))))|((with_reducible apply P7);rfl;(simp (disch:=omega) [fin];exact Red.rfl);exact Red.rfl;(focus (simp [repast, pr, AOp.sem];done))))
          refine q_drop (.inr rfl) (by simp; exact Red.rfl) (by simp) rfl
end Go.Proofs
