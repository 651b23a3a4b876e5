/- Least times. -/
import Derived.Test.YtfghjepmofkdaaaSC
namespace Go.Proofs
open Go.Abs
attribute [local simp] AOp.den AOpd.ev lk cellsOf rd_new rd_new0 rd_zero rd_succ wr_new wr_new0 wr_zero wr_succ splice fillA binA scal sliceCells List.length_append argsT AV.sc scL AObj.sc resV getAll AR.get AOp.slots opdSlots opdsSlots partSlots eqAt at_new0 at_new set_new0 set_new wrap64
set_option linter.unusedSimpArgs false
set_option linter.unusedVariables false
theorem up_zero {x : Int} (hx : 0 ≤ x) : upV x = 0 ↔ x = 0 := by
  obtain ⟨h1, h2, h3⟩ := upV_is hx
  constructor
  · intro h; rw [h] at h2; omega
  · intro h
    rcases h3 with h3 | h3
    · exact h3
    · have : 0 ≤ (upV x - 1) * (upV x - 1) := by
        rcases Int.le_total 0 (upV x - 1) with h5 | h5
        · exact Int.mul_nonneg h5 h5
        · exact Int.mul_nonneg_of_nonpos_of_nonpos h5 h5
      omega
theorem up_mono {x y : Int} (hx : 0 ≤ x) (hxy : x ≤ y) : upV x ≤ upV y := by
  obtain ⟨h1, h2, h3⟩ := upV_is hx
  obtain ⟨g1, g2, g3⟩ := upV_is (show 0 ≤ y by omega)
  rcases Int.lt_or_le (upV y) (upV x) with h | h
  · rcases h3 with h3 | h3
    · omega
    · have := sq_mono (a := upV y) (b := upV x - 1) g1 (by omega); omega
  · exact h
theorem up_bd {x : Int} (hx : 0 ≤ x ∧ x ≤ 260000) : 0 ≤ upV x ∧ upV x ≤ 510120001 := ⟨(up_facts hx (Int.le_refl x)).1, (up_facts hx (Int.le_refl x)).2.1⟩
theorem up_max {x y : Int} (hx : 0 ≤ x) (hy : 0 ≤ y) : max (upV x) (upV y) = upV (max x y) := by
  rcases Int.le_total x y with h | h
  · rw [Int.max_eq_right h, Int.max_eq_right (up_mono hx h)]
  · rw [Int.max_eq_left h, Int.max_eq_left (up_mono hy h)]
/-- The least time: a length by a speed, rounded up. -/
def lsF (L v : Int) : Int := (L * 1000 + v - 1) / v
theorem lsF_is {L v : Int} (hL : 1 ≤ L) (hv : 1 ≤ v) : 1 ≤ lsF L v ∧ L * 1000 ≤ lsF L v * v ∧ (lsF L v - 1) * v < L * 1000 ∧ lsF L v ≤ L * 1000 := by
  have h1 : lsF L v * v ≤ L * 1000 + v - 1 := Int.ediv_mul_le _ (by omega)
  have h2 : L * 1000 + v - 1 < (lsF L v + 1) * v := Int.lt_ediv_add_one_mul_self _ (by omega)
  have e : (lsF L v + 1) * v = lsF L v * v + v := by rw [Int.add_mul]; omega
  have e2 : (lsF L v - 1) * v = lsF L v * v - v := by rw [Int.sub_mul]; omega
  have h3 : 1 ≤ lsF L v := (Int.le_ediv_iff_mul_le (by omega)).2 (by omega)
  have h4 : lsF L v - 1 ≤ (lsF L v - 1) * v := by
    have := Int.mul_le_mul_of_nonneg_left hv (show 0 ≤ lsF L v - 1 by omega); omega
  omega

theorem c_Least (H : Heap) (l : List Str) (id off : Nat) (ex : Bool) (s : Sl) (hs : rd H id off (l.length * 9) = some (l.flatMap Str.av)) (hv : validL l) (hk : s.ok) (i : Nat) (hi : i < l.length) :
    ACalls Try.prog F.slide_Least [.agg [.slice id off l.length 9 ex], .agg s.av, .int .i64 i] H (fun v h' => h' = H ∧
      ((upV (wiF (hd true s l) i) = 0 ∧ v = .tuple [.int .i64 0, .int .i64 6]) ∨ (upV (wiF (hd true s l) i) ≠ 0 ∧ v = .tuple [.int .i64 (lsF (strAt l i).lLo (upV (wiF (hd true s l) i))), .int .i64 0]))) := by
  have hid := rd_lt hs
  have h12 := hv.1
  have ck := fun H' h1 xid h2 => c_checkOne H' l id off ex s xid 0 true h1 hv hk h2
  have cf := fun H' h => c_fastest H' s id off l.length ex h
  have cw := fun H' h => c_swithin true H' s l id off ex h hv hk
  have cl := fun H' h => c_long true H' s l id off ex h i hi
  have cb2 := wi_bd hv hk true hi
  have vb := up_bd cb2
  have hi2 : (i : Int) < l.length := by omega
  have hi3 : (i : Int) ≤ (l.length : Int) - 1 := by omega
  have hL := (str_ok hv hi).2.2.1
  simp only [trv, Sl.av, List.cons_append, List.nil_append] at ck cf cw cl ⊢
  refine acalls_of ok_slide_Least rfl fun hcl => ?_
  unfold ac_slide_Least
  simp only [argsT, Nat.zero_add, Nat.reduceAdd]
  repeat (first|(with_reducible first|apply X1|apply X2|apply X8)|((with_reducible apply e_end);(simp;exact Red.rfl))|((with_reducible apply O1);rfl;(simp (disch:=omega);exact Red.rfl);exact Red.rfl;(focus (first|(simp;done)|omega|(simp;omega)))))
  (with_reducible apply e_call); (simp; exact Red.rfl); exact ck _ (by rw [rd_old _ hid]; exact hs) _ (by simp)
  rintro _ _ ⟨rfl, rfl⟩
  repeat (first|(with_reducible first|apply X1|apply X2|apply X5|apply X8)|((with_reducible apply e_end);(simp;exact Red.rfl))|((with_reducible apply O1);rfl;(simp (disch:=omega);exact Red.rfl);exact Red.rfl;(focus (first|(simp;done)|omega|(simp;omega))))|((with_reducible apply W3);(simp (disch:=omega);exact Red.rfl)))
  (with_reducible apply e_call); (simp; exact Red.rfl); exact c_upto _ _
  rintro _ _ ⟨rfl, rfl⟩
  repeat ((with_reducible apply O1);rfl;(simp (disch:=omega);exact Red.rfl);exact Red.rfl;(focus (first|(simp;done)|omega|(simp;omega))))
  (with_reducible apply e_call); (simp; exact Red.rfl); exact c_within _ _ _ [(i : Int)] _ 0 true (by simp) (by simp)
  rintro _ _ ⟨rfl, rfl⟩
  repeat (first|(with_reducible first|apply X1|apply X2|apply X5|apply X8)|((with_reducible apply e_end);(simp;exact Red.rfl))|((with_reducible apply O1);rfl;(simp (disch:=omega) [hi, hi2, hi3];exact Red.rfl);exact Red.rfl;(focus (first|(simp;done)|omega|(simp;omega))))|((with_reducible apply W3);(simp (disch:=omega) [hi, hi2, hi3];exact Red.rfl)))
  (with_reducible apply e_call); (simp; exact Red.rfl); exact cf _ (by simp; omega)
  rintro _ _ ⟨rfl, rfl⟩
  repeat (first|(with_reducible first|apply X1|apply X2|apply X8)|((with_reducible apply e_end);(simp;exact Red.rfl))|((first|((with_reducible apply O1);rfl)|((with_reducible apply O2);rfl));(simp (disch:=omega);exact Red.rfl);exact Red.rfl;(focus (first|(simp;done)|omega|(simp;omega)))))
  (with_reducible apply e_call); (simp; exact Red.rfl); exact cw _ (by simp only [List.append_assoc, rd_old _ hid]; exact hs)
  rintro _ _ ⟨rfl, rfl⟩
  have q2 : ((avR (r1 (wiF (hd true s l))) l.length).drop i).take 1 = [.int .i64 (wiF (hd true s l) i)] := by
    simpa [r1] using (plain_r1 (wiF (hd true s l))).part (n := l.length) (i := i) (c := 0) (m := 1) hi (by omega)
  have l2 := (plain_r1 (wiF (hd true s l))).length l.length
  have le1 : i + 1 ≤ l.length := hi
  repeat ((with_reducible apply O1);rfl;(simp (disch:=omega) [hi, hi2, q2, l2, le1];exact Red.rfl);exact Red.rfl;(focus (first|(simp;done)|omega|(simp;omega))))
  (with_reducible apply e_call); (simp; exact Red.rfl); exact c_speedUp' _ _ (by omega)
  rintro _ _ ⟨rfl, rfl⟩
  repeat (first|(with_reducible first|apply X1|apply X2|apply X8)|((with_reducible apply e_end);(simp;exact Red.rfl))|((with_reducible apply O1);rfl;(simp (disch:=omega);exact Red.rfl);exact Red.rfl;(focus (first|(simp;done)|omega|(simp;omega)))))
  by_cases hz : upV (wiF (hd true s l) i) = 0
  · repeat (first|(with_reducible first|apply X1|apply X2|apply X3|apply X8|apply X9)|((with_reducible apply e_end);(simp;exact Red.rfl))|((with_reducible apply O1);rfl;(simp (disch:=omega) [hz];exact Red.rfl);exact Red.rfl;(focus (first|(simp;done)|omega|(simp;omega))))|((with_reducible apply Z9);(simp (disch:=omega) [hz];exact Red.rfl)))
    refine q_drop (.inr rfl) (by simp; exact Red.rfl) (by simp) ⟨rfl, .inl ⟨hz, rfl⟩⟩
  · repeat (first|(with_reducible first|apply X1|apply X2|apply X5|apply X8)|((with_reducible apply O1);rfl;(simp (disch:=omega) [hz];exact Red.rfl);exact Red.rfl;(focus (first|(simp;done)|omega|(simp;omega))))|((with_reducible apply W3);(simp (disch:=omega) [hz];exact Red.rfl)))
    (with_reducible apply e_call); (simp; exact Red.rfl); exact cl _ (by simp only [List.append_assoc, rd_old _ hid]; exact hs)
    rintro _ _ ⟨rfl, rfl⟩
    generalize hvv : upV (wiF (hd true s l) i) = vv at vb hz
    have hdn : dn true (strAt l i).lLo (strAt l i).lHi = (strAt l i).lLo := rfl
    rw [hdn]
    have hq : ((strAt l i).lLo * 1000 + vv - 1).tdiv vv = lsF (strAt l i).lLo vv := Int.tdiv_eq_ediv_of_nonneg (by omega)
    have lb := lsF_is (L := (strAt l i).lLo) (v := vv) (by omega) (by omega)
    generalize lsF (strAt l i).lLo vv = q at hq lb
    repeat (first|(with_reducible first|apply X3|apply X8)|((with_reducible apply e_end);(simp;exact Red.rfl))|((with_reducible apply O1);rfl;(simp (disch:=omega) [hz, hq];exact Red.rfl);exact Red.rfl;(focus (first|(simp;done)|omega|(simp;omega)))))
    refine q_drop (.inr rfl) (by simp; exact Red.rfl) (by simp) ⟨rfl, .inr ⟨hz, rfl⟩⟩
end Go.Proofs
