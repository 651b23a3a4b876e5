/- Several texts as one. -/
import Derived.Test.YtdjneegacogklaaTA
import Derived.Test.YtdjneegacogklaaSC
/- Curves that throw a sled. -/
namespace Go.Proofs
open Go.Abs
attribute [local simp] AOp.den AOpd.ev lk cellsOf rd_new rd_new0 rd_zero rd_succ wr_new wr_new0 wr_zero wr_succ splice fillA binA scal sliceCells List.length_append argsT AV.sc scL AObj.sc resV getAll AR.get AOp.slots opdSlots opdsSlots partSlots eqAt at_new0 at_new set_new0 set_new wrap64
set_option linter.unusedSimpArgs false
set_option linter.unusedVariables false
def mpV (w : Nat → Int) (xs : List Nat) : List (AV × AV) := xs.map fun (j : Nat) => (.int .i64 (j : Int), .int .i64 (w j))
def moX (w : Nat → Int) (xs : List Nat) (c : Nat) : AObj := .other (.map (mpV w xs) xs c)
theorem keyEq_nat (a b : Nat) : keyEq (.one .int) (.int .i64 (a : Int)) (.int .i64 (b : Int)) = some (decide (a = b)) := by
  have e : ((a : Int) = b) = (a = b) := propext Int.ofNat_inj
  simp only [keyEq, eqCell, if_true, e]
theorem findV_not (w : Nat → Int) (k : Nat) : ∀ xs : List Nat, ¬ k ∈ xs → findA (.one .int) (.int .i64 (k : Int)) (mpV w xs) = some none
  | [], _ => rfl
  | a :: r, h => by
    have h1 : ¬ k = a := fun e => h (by simp [e])
    have h2 := findV_not w k r (fun e => h (List.mem_cons_of_mem _ e))
    have e : mpV w (a :: r) = (.int .i64 (a : Int), .int .i64 (w a)) :: mpV w r := rfl
    rw [e]
    simp only [findA, keyEq_nat, h1, decide_false, h2]
theorem findV_mem (w : Nat → Int) (k : Nat) : ∀ xs : List Nat, k ∈ xs → ∃ p : Nat, xs[p]? = some k ∧ findA (.one .int) (.int .i64 (k : Int)) (mpV w xs) = some (some p)
  | [], h => by cases h
  | a :: r, h => by
    have e : mpV w (a :: r) = (.int .i64 (a : Int), .int .i64 (w a)) :: mpV w r := rfl
    by_cases h1 : k = a
    · subst h1
      exact ⟨0, rfl, by rw [e]; simp only [findA, keyEq_nat, decide_true]⟩
    · have h2 : k ∈ r := by
        rcases List.mem_cons.1 h with h | h
        · exact absurd h h1
        · exact h
      obtain ⟨p, q1, q2⟩ := findV_mem w k r h2
      exact ⟨p + 1, by simpa using q1, by rw [e]; simp only [findA, keyEq_nat, h1, decide_false, q2]⟩
theorem mpV_get (w : Nat → Int) {xs : List Nat} {p k : Nat} (h : xs[p]? = some k) : (mpV w xs)[p]? = some (.int .i64 (k : Int), .int .i64 (w k)) := by
  simp [mpV, h]
theorem erase_map {α β : Type} (f : α → β) : ∀ (xs : List α) (p : Nat), (xs.map f).eraseIdx p = (xs.eraseIdx p).map f
  | [], _ => rfl
  | _ :: _, 0 => rfl
  | a :: xs, p + 1 => by simp only [List.map_cons, List.eraseIdx_cons_succ, erase_map f xs p]
theorem erase_nd {k : Nat} : ∀ {xs : List Nat} {p : Nat}, xs.Nodup → xs[p]? = some k → xs.eraseIdx p = xs.filter fun j => decide (j ≠ k)
  | [], p, _, h => by simp at h
  | a :: r, 0, hd, h => by
    simp at h; subst h
    have h1 := List.nodup_cons.1 hd
    rw [List.eraseIdx_cons_zero, List.filter_cons_of_neg (by simp)]
    exact (List.filter_eq_self.2 fun x hx => by
      have : x ≠ a := by rintro rfl; exact h1.1 hx
      simpa using this).symm
  | a :: r, p + 1, hd, h => by
    have h1 := List.nodup_cons.1 hd
    have hk : k ∈ r := List.mem_of_getElem? (by simpa using h)
    have hne : a ≠ k := by rintro rfl; exact h1.1 hk
    rw [List.eraseIdx_cons_succ, List.filter_cons_of_pos (by simpa using hne), erase_nd h1.2 (by simpa using h)]
theorem den_getV {m i : AOpd} {ev : AOpd → AV} {h : Heap} {id k c : Nat} {w : Nat → Int} {xs : List Nat} (hm : ev m = .map id) (hi : ev i = .int .i64 (k : Int)) (hh : h[id]? = some (moX w xs c)) (hk : k ∈ xs) :
    (AOp.mapGet false (.int .i64 0) (.one .int) m i).den ev h = .ok True (.int .i64 (w k)) h := by
  obtain ⟨p, q1, q2⟩ := findV_mem w k xs hk
  simp only [AOp.den, AOp.fx, hm, hi, keyEq_nat, mapAt, hh, moX, Option.isSome_some, if_true, q2, mpV_get w q1]
  simp
theorem den_putV {m i x : AOpd} {ev : AOpd → AV} {h : Heap} {id k c : Nat} {w : Nat → Int} {xs : List Nat} (hm : ev m = .map id) (hi : ev i = .int .i64 (k : Int)) (hx : ev x = .int .i64 (w k)) (hh : h[id]? = some (moX w xs c)) (hk : ¬ k ∈ xs) (hc : c = k) :
    (AOp.mapPut (.one .int) m i x).den ev h = .ok True (.tuple []) (h.set id (moX w (xs ++ [k]) (c + 1))) := by
  simp only [AOp.den, AOp.fx, hm, hi, hx, keyEq_nat, hh, moX, Option.isSome_some, if_true, findV_not w k xs hk]
  simp [mpV, hc]
theorem den_delV {m i : AOpd} {ev : AOpd → AV} {h : Heap} {id k c : Nat} {w : Nat → Int} {xs : List Nat} (hm : ev m = .map id) (hi : ev i = .int .i64 (k : Int)) (hh : h[id]? = some (moX w xs c)) (hk : k ∈ xs) (hd : xs.Nodup) :
    (AOp.mapDel (.one .int) m i).den ev h = .ok True (.tuple []) (h.set id (moX w (xs.filter fun j => decide (j ≠ k)) c)) := by
  obtain ⟨p, q1, q2⟩ := findV_mem w k xs hk
  have e : (mpV w xs).eraseIdx p = mpV w (xs.filter fun j => decide (j ≠ k)) := by
    rw [← erase_nd hd q1]; simp only [mpV, erase_map]
  simp only [AOp.den, AOp.fx, hm, hi, keyEq_nat, hh, moX, Option.isSome_some, if_true, q2, e, erase_nd hd q1]
/-- Whether a curve throws a sled. -/
def thrB (t : Bool) (s : Sl) (l : List Str) (i : Nat) : Bool := decide ((strAt l i).side ≠ 0 ∧ (strAt l i).wall < htF (wiF (hd t s l) i) (dn t (strAt l i).rLo (strAt l i).rHi) (up t s.t1 s.t2))
/-- All curves that do. -/
def thL (t : Bool) (s : Sl) (l : List Str) : List Nat := (List.range l.length).filter (thrB t s l)
/-- What is left of all stretches when some were looked at. -/
def leL (th : Nat → Bool) (n i : Nat) : List Nat := (List.range n).filter fun j => decide (i ≤ j) || th j
theorem le_zero (th : Nat → Bool) (n : Nat) : leL th n 0 = List.range n := List.filter_eq_self.2 fun _ _ => by simp
theorem le_end (th : Nat → Bool) (n : Nat) : leL th n n = (List.range n).filter th := List.filter_congr fun j hj => by
  have := List.mem_range.1 hj
  simp [show ¬ n ≤ j by omega]
theorem le_keepT {th : Nat → Bool} {n i : Nat} (h : th i = true) : leL th n (i + 1) = leL th n i := List.filter_congr fun j _ => by
  by_cases hj : j = i
  · subst hj; simp [h]
  · have : (i + 1 ≤ j) = (i ≤ j) := propext (by omega)
    simp [this]
theorem le_dropF {th : Nat → Bool} {n i : Nat} (h : th i = false) : (leL th n i).filter (fun j => decide (j ≠ i)) = leL th n (i + 1) := by
  unfold leL
  rw [List.filter_filter]
  refine List.filter_congr fun j _ => ?_
  by_cases hj : j = i
  · subst hj; simp [h]
  · have : (i + 1 ≤ j) = (i ≤ j) := propext (by omega)
    simp [this, hj]
theorem le_mem {th : Nat → Bool} {n i : Nat} (h : i < n) : i ∈ leL th n i := List.mem_filter.2 ⟨List.mem_range.2 h, by simp⟩
theorem le_nd (th : Nat → Bool) (n i : Nat) : (leL th n i).Nodup := List.Pairwise.filter _ List.nodup_range

theorem c_throws (t : Bool) (H : Heap) (s : Sl) (l : List Str) (id off : Nat) (ex : Bool) (hs : rd H id off (l.length * 9) = some (l.flatMap Str.av)) (hv : validL l) (hk : s.ok) (i : Nat) (hi : i < l.length) (x : Int) (hx : 0 ≤ x ∧ x ≤ 260000) (hc : (strAt l i).side ≠ 0) :
    ACalls Try.prog F.slide_truth_throws [.agg (trv t s (.slice id off l.length 9 ex)), .int .i64 i, .int .i64 x] H (fun v h' => v = .bool (decide ((strAt l i).wall < htF x (dn t (strAt l i).rLo (strAt l i).rHi) (up t s.t1 s.t2))) ∧ h' = H) := by
  have hid := rd_lt hs
  have chh := fun H' h => c_height t H' s l id off ex h hk i hi x hx (curve_rad hv hi hc)
  have hrow := rd_row Str.av_length hs hi
  have hst := strAt_eq hi
  have hi2 : (i : Int) < l.length := by omega
  generalize htF x (dn t (strAt l i).rLo (strAt l i).rHi) (up t s.t1 s.t2) = ht at chh ⊢
  rw [hst]
  generalize hsi : l[i] = st at hrow
  obtain ⟨b1, b2, b3, b4, b5, b6, b7, b8, b9⟩ := st
  simp only [Str.av] at hrow
  have hx2 : rd H id (off + i * 9 + 8) 1 = some [.int .i64 b9] := by simpa using rd_sub hrow (show 8 + 1 ≤ 9 by omega)
  simp only [trv, Sl.av, List.cons_append, List.nil_append] at chh ⊢
  refine acalls_of ok_slide_truth_throws rfl fun hcl => ?_
  unfold ac_slide_truth_throws
  simp only [argsT, Nat.zero_add, Nat.reduceAdd]
  repeat (first|(with_reducible first|apply X1|apply X2|apply X8|apply Y9)|((with_reducible apply e_end);(simp;exact Red.rfl))|((first|((with_reducible apply O1);rfl)|((with_reducible apply P1);rfl)|((with_reducible apply P2);rfl));(simp (disch:=omega);exact Red.rfl);exact Red.rfl;(focus (first|(simp;done)|omega|(simp;omega)))))
  (with_reducible apply d_call); (simp; exact Red.rfl); exact chh _ (by rw [rd_old _ hid]; exact hs); (focus (first | (simp; done) | (simp; omega)))
  repeat (first|(with_reducible first|apply X3|apply X8)|((with_reducible apply d_end);(simp;exact Red.rfl))|((with_reducible apply P1);rfl;(simp (disch:=omega) [rd_old _ hid, hx2, hi, hi2];exact Red.rfl);exact Red.rfl;(focus (first|(simp;done)|omega|(simp;omega))))|((with_reducible apply P6);rfl;(simp (disch:=omega) [rd_old _ hid, hx2, hi, hi2];exact Red.rfl);exact Red.rfl;(focus (first|(simp [pr];done)|(simp [pr];omega)))))
  refine q_drop (.inr rfl) (by simp; exact Red.rfl) (by simp) ⟨rfl, rfl⟩
end Go.Proofs
/- Who may be thrown. -/
namespace Go.Proofs
open Go.Abs
attribute [local simp] AOp.den AOpd.ev lk cellsOf rd_new rd_new0 rd_zero rd_succ wr_new wr_new0 wr_zero wr_succ splice fillA binA scal sliceCells List.length_append argsT AV.sc scL AObj.sc resV getAll AR.get AOp.slots opdSlots opdsSlots partSlots eqAt at_new0 at_new set_new0 set_new wrap64
set_option linter.unusedSimpArgs false
set_option linter.unusedVariables false
def thK (t : Bool) (s : Sl) (l : List Str) (p : Nat) : Int := ((thL t s l).getD p 0 : Nat)
set_option maxHeartbeats 2000000 in
theorem c_throwing (t : Bool) (H : Heap) (s : Sl) (l : List Str) (id off : Nat) (ex : Bool) (hs : rd H id off (l.length * 9) = some (l.flatMap Str.av)) (hv : validL l) (hk : s.ok) :
    ACalls Try.prog F.slide_truth_throwing [.agg (trv t s (.slice id off l.length 9 ex))] H (fun v h' => v = lV H (thL t s l).length ∧ h' = H ++ lO (thL t s l).length (thK t s l)) := by
  have hid := rd_lt hs
  have h12 := hv.1
  have cw := fun H' h => c_swithin t H' s l id off ex h hv hk
  have cth := fun i hi hc H' h x hx => c_throws t H' s l id off ex h hv hk i hi x hx hc
  have wl := (plain_r1 (wiF (hd t s l))).length l.length
  have plW := (plain_r1 (wiF (hd t s l))).plain l.length
  simp only [trv, Sl.av, List.cons_append, List.nil_append] at cw cth ⊢
  refine acalls_of ok_slide_truth_throwing rfl fun hcl => ?_
  unfold ac_slide_truth_throwing
  simp only [argsT, Nat.zero_add, Nat.reduceAdd]
  repeat (first|(with_reducible first|apply X1|apply X2|apply X8)|((with_reducible apply e_end);(simp;exact Red.rfl))|((with_reducible apply O1);rfl;(simp (disch:=omega);exact Red.rfl);exact Red.rfl;(focus (first|(simp;done)|omega|(simp;omega)))))
  (with_reducible apply e_call); (simp; exact Red.rfl); exact cw _ (by rw [rd_old _ hid]; exact hs)
  rintro _ _ ⟨rfl, rfl⟩
  repeat (first|(with_reducible first|apply X6|apply X8)|((with_reducible apply e_end);(simp;exact Red.rfl))|((with_reducible apply O1);rfl;(simp (disch:=omega);exact Red.rfl);exact Red.rfl;(focus (first|(simp;done)|omega|(simp;omega)))))
  refine e_loop (ι := { i : Nat // i ≤ l.length })
    (fun i => [(1, .ptr H.length 0), (3, .map (H.length + 1)), (9, .slice (H.length + 2) 0 l.length 1 true), (10, .int .i64 l.length), (11, .int .i64 i.1)])
    (fun i => H ++ [.cells [.int .u8 s.c, .int .i64 s.s1, .int .i64 s.s2, .int .i64 s.r1, .int .i64 s.r2, .int .i64 s.d1, .int .i64 s.d2, .int .i64 s.w1, .int .i64 s.w2, .int .i64 s.t1, .int .i64 s.t2, .slice id off l.length 9 ex, .fn (.func (moF t)) [] [], .fn (.func (leF t)) [] []] true, moX (wiF (hd t s l)) (List.range i.1) i.1, .cells (avR (r1 (wiF (hd t s l))) l.length) true]) (fun i => l.length - i.1) ⟨0, by simp⟩ ?_ ?_
  · exact .inl rfl
  · rintro ⟨i, hi⟩
    dsimp only
    by_cases hlt : i < l.length
    · have hlt2 : (i : Int) < l.length := by omega
      have le1 : i + 1 ≤ l.length := hlt
      have q1 : ((avR (r1 (wiF (hd t s l))) l.length).drop i).take 1 = [.int .i64 (wiF (hd t s l) i)] := by
        simpa [r1] using (plain_r1 (wiF (hd t s l))).part (n := l.length) (i := i) (c := 0) (m := 1) hlt (by omega)
      repeat (first|(with_reducible first|apply X1|apply X2|apply X5|apply X6|apply X8)|((with_reducible apply e_end);(simp;exact Red.rfl))|((with_reducible apply O1);rfl;(simp (disch:=omega) [hlt, hlt2, le1, q1, wl];exact Red.rfl);exact Red.rfl;(focus (first|(simp;done)|omega|(simp;omega))))|((with_reducible apply Z9);(simp (disch:=omega) [hlt, hlt2, le1, q1, wl];exact Red.rfl)))
      refine e_do (op := .mapPut _ _ _ _) rfl (den_putV (k := i) (w := wiF (hd t s l)) (xs := List.range i) (c := i) rfl rfl rfl (by rw [at_new]; rfl) (by simp) rfl) Red.rfl trivial ?_
      rw [set_new, ← List.range_succ]
      repeat (first|(with_reducible first|apply X2|apply X8|apply Y2)|((with_reducible apply e_end);(simp;exact Red.rfl))|((with_reducible apply O1);rfl;(simp (disch:=omega);exact Red.rfl);exact Red.rfl;(focus (first|(simp;done)|omega|(simp;omega)))))
      exact q_again ⟨i + 1, by omega⟩ (by dsimp only; omega) (.inl rfl)
    · obtain rfl : i = l.length := by omega
      clear hlt hi
      repeat (first|(with_reducible first|apply X1|apply X2|apply X4|apply X6|apply X8|apply Y1|apply Y4|apply Y6)|((with_reducible apply e_end);(simp;exact Red.rfl))|((with_reducible apply O1);rfl;(simp (disch:=omega);exact Red.rfl);exact Red.rfl;(focus (first|(simp;done)|omega|(simp;omega))))|((with_reducible apply W3);(simp (disch:=omega);exact Red.rfl)))
      rw [← le_zero (thrB t s l)]
      refine e_loop (ι := { i : Nat // i ≤ l.length })
        (fun i => [(1, .ptr H.length 0), (3, .map (H.length + 1)), (23, .int .i64 l.length), (24, .int .i64 i.1)])
        (fun i => H ++ [.cells [.int .u8 s.c, .int .i64 s.s1, .int .i64 s.s2, .int .i64 s.r1, .int .i64 s.r2, .int .i64 s.d1, .int .i64 s.d2, .int .i64 s.w1, .int .i64 s.w2, .int .i64 s.t1, .int .i64 s.t2, .slice id off l.length 9 ex, .fn (.func (moF t)) [] [], .fn (.func (leF t)) [] []] true, moX (wiF (hd t s l)) (leL (thrB t s l) l.length i.1) l.length, .cells (avR (r1 (wiF (hd t s l))) l.length) true]) (fun i => l.length - i.1) ⟨0, by simp⟩ ?_ ?_
      · exact .inl rfl
      · rintro ⟨i, hi⟩
        dsimp only
        by_cases hlt : i < l.length
        · have hlt2 : (i : Int) < l.length := by omega
          have hx := rd_row Str.av_length hs hlt
          have hst := strAt_eq hlt
          rw [← hst] at hx
          have cb := wi_bd hv hk t hlt
          have hsr := str_rad hv hlt
          have cst := fun H' b hb => c_straight H' (strAt l i) (b := b) hb
          have cth := cth i hlt
          have hthr : thrB t s l i = decide ((strAt l i).side ≠ 0 ∧ (strAt l i).wall < htF (wiF (hd t s l) i) (dn t (strAt l i).rLo (strAt l i).rHi) (up t s.t1 s.t2)) := rfl
          generalize strAt l i = st at hx hsr cst cth hthr
          obtain ⟨a1, a2, a3, a4, a5, a6, a7, a8, a9⟩ := st
          simp only [Str.av] at hx cst
          dsimp only at hsr cst cth hthr
          repeat (first|(with_reducible first|apply X1|apply X2|apply X5|apply X6|apply X8)|((with_reducible apply e_end);(simp;exact Red.rfl))|((with_reducible apply O1);rfl;(simp (disch:=omega) [hlt, hlt2, rd_old _ hid, hx];exact Red.rfl);exact Red.rfl;(focus (first|(simp;done)|omega|(simp;omega))))|((with_reducible apply Z9);(simp (disch:=omega) [hlt, hlt2, rd_old _ hid, hx];exact Red.rfl)))
          by_cases hside : a8 = 0
          · (with_reducible apply e_call); (simp; exact Red.rfl); exact cst _ true (by simp [hsr, hside])
            rintro _ _ ⟨rfl, rfl⟩
            repeat (first|(with_reducible first|apply X2|apply X8)|((with_reducible apply e_end);(simp;exact Red.rfl))|((with_reducible apply O1);rfl;(simp (disch:=omega);exact Red.rfl);exact Red.rfl;(focus (first|(simp;done)|omega|(simp;omega))))|((with_reducible apply Z9);(simp (disch:=omega);exact Red.rfl))|((with_reducible apply Z2);(simp (disch:=omega);exact Red.rfl)))
            have hf : thrB t s l i = false := by rw [hthr]; simp [hside]
            refine e_do (op := .mapDel _ _ _) rfl (den_delV (k := i) (w := wiF (hd t s l)) rfl rfl (by rw [at_new]; rfl) (le_mem hlt) (le_nd _ _ _)) Red.rfl trivial ?_
            rw [set_new, le_dropF hf]
            repeat (first|(with_reducible first|apply X2|apply X8|apply Y2)|((with_reducible apply e_end);(simp;exact Red.rfl))|((with_reducible apply O1);rfl;(simp (disch:=omega);exact Red.rfl);exact Red.rfl;(focus (first|(simp;done)|omega|(simp;omega)))))
            exact q_again ⟨i + 1, by omega⟩ (by dsimp only; omega) (.inl rfl)
          · (with_reducible apply e_call); (simp; exact Red.rfl); exact cst _ false (by simp [hsr, hside])
            rintro _ _ ⟨rfl, rfl⟩
            repeat (first|((with_reducible apply O1);rfl;(simp (disch:=omega);exact Red.rfl);exact Red.rfl;(focus (first|(simp;done)|omega|(simp;omega))))|((with_reducible apply Z7);(simp (disch:=omega);exact Red.rfl)))
            refine e_op (op := .mapGet _ _ _ _ _) rfl (den_getV (k := i) (w := wiF (hd t s l)) rfl rfl (by rw [at_new]; rfl) (le_mem hlt)) Red.rfl trivial ?_
            repeat ((with_reducible apply Z7);(simp (disch:=omega);exact Red.rfl))
            (with_reducible apply e_call); (simp; exact Red.rfl); exact cth hside _ (by rw [rd_old _ hid]; exact hs) _ cb
            rintro _ _ ⟨rfl, rfl⟩
            by_cases hw : a9 < htF (wiF (hd t s l) i) (dn t a6 a7) (up t s.t1 s.t2)
            · have hT : thrB t s l i = true := by rw [hthr]; simp [hside, hw]
              rw [← le_keepT hT]
              repeat (first|(with_reducible first|apply X2|apply X5|apply X8|apply Y2)|((with_reducible apply e_end);(simp;exact Red.rfl))|((with_reducible apply O1);rfl;(simp (disch:=omega) [hw];exact Red.rfl);exact Red.rfl;(focus (first|(simp;done)|omega|(simp;omega))))|((with_reducible apply Z7);(simp (disch:=omega) [hw];exact Red.rfl))|((with_reducible apply W3);(simp (disch:=omega) [hw];exact Red.rfl)))
              exact q_again ⟨i + 1, by omega⟩ (by dsimp only; omega) (.inl rfl)
            · have hf : thrB t s l i = false := by rw [hthr]; simp [hw]
              repeat (first|(with_reducible first|apply X2|apply X8)|((with_reducible apply e_end);(simp;exact Red.rfl))|((with_reducible apply O1);rfl;(simp (disch:=omega) [hw];exact Red.rfl);exact Red.rfl;(focus (first|(simp;done)|omega|(simp;omega))))|((with_reducible first|apply Z7|apply Z9);(simp (disch:=omega) [hw];exact Red.rfl)))
              refine e_do (op := .mapDel _ _ _) rfl (den_delV (k := i) (w := wiF (hd t s l)) rfl rfl (by rw [at_new]; rfl) (le_mem hlt) (le_nd _ _ _)) Red.rfl trivial ?_
              rw [set_new, le_dropF hf]
              repeat (first|(with_reducible first|apply X2|apply X8|apply Y2)|((with_reducible apply e_end);(simp;exact Red.rfl))|((with_reducible apply O1);rfl;(simp (disch:=omega);exact Red.rfl);exact Red.rfl;(focus (first|(simp;done)|omega|(simp;omega)))))
              exact q_again ⟨i + 1, by omega⟩ (by dsimp only; omega) (.inl rfl)
        · obtain rfl : i = l.length := by omega
          repeat (first|(with_reducible first|apply X1|apply X2|apply X4|apply X8|apply Y1|apply Y4|apply Y6)|((with_reducible apply e_end);(simp;exact Red.rfl))|((with_reducible apply O1);rfl;(simp (disch:=omega);exact Red.rfl);exact Red.rfl;(focus (first|(simp;done)|omega|(simp;omega))))|((with_reducible apply W3);(simp (disch:=omega);exact Red.rfl)))
          rw [le_end]
          (with_reducible apply e_call); (simp; exact Red.rfl); exact c_Keys _ (H.length + 1) (by simp)
          rintro _ _ ⟨rfl, rfl⟩
          have hX : (List.range l.length).filter (thrB t s l) = thL t s l := rfl
          rw [hX]
          have nd : (thL t s l).Nodup := List.Pairwise.filter _ List.nodup_range
          have hln : (thL t s l).length ≤ l.length := by
            have := List.length_filter_le (thrB t s l) (List.range l.length)
            simpa [thL] using this
          have inc : ∀ i j, i < j → j < (thL t s l).length → thK t s l i < thK t s l j := by
            intro i j hij hj
            have hp : (thL t s l).Pairwise (· < ·) := List.Pairwise.filter _ List.pairwise_lt_range
            have := List.pairwise_iff_getElem.1 hp i j (by omega) hj hij
            simp only [thK, List.getD_eq_getElem?_getD, List.getElem?_eq_getElem hj, List.getElem?_eq_getElem (show i < (thL t s l).length by omega), Option.getD_some]
            omega
          have KM : KeyMap (H ++ [.cells [.int .u8 s.c, .int .i64 s.s1, .int .i64 s.s2, .int .i64 s.r1, .int .i64 s.r2, .int .i64 s.d1, .int .i64 s.d2, .int .i64 s.w1, .int .i64 s.w2, .int .i64 s.t1, .int .i64 s.t2, .slice id off l.length 9 ex, .fn (.func (moF t)) [] [], .fn (.func (leF t)) [] []] true, moX (wiF (hd t s l)) (thL t s l) l.length, .cells (avR (r1 (wiF (hd t s l))) l.length) true, .cells [.map (H.length + 1)] true]) (H.length + 1) (mpV (wiF (hd t s l)) (thL t s l)) (thL t s l) l.length (thL t s l).length (thK t s l) :=
            ⟨by rw [at_new]; rfl, by simp [mpV], rfl, nd, fun b hb => List.mem_range.1 (List.mem_filter.1 hb).1, fun p hp => ⟨_, by
              rw [mpV_get _ (List.getElem?_eq_getElem hp)]
              simp only [thK, List.getD_eq_getElem?_getD, List.getElem?_eq_getElem hp, Option.getD_some]
              rfl⟩⟩
          have csd := c_Sorted _ (H.length + 3) (H.length + 1) l.length _ _ _ _ KM (by simp) (by omega) inc
          simp only [List.append_assoc, List.cons_append, List.nil_append, List.length_append, List.length_cons, List.length_nil, Nat.zero_add, Nat.reduceAdd]
          (with_reducible apply e_call); (simp; exact Red.rfl); exact csd
          rintro _ _ ⟨rfl, rfl⟩
          have pl := (plain_r1 (thK t s l)).plain (thL t s l).length
          generalize (thL t s l).length = m at pl ⊢
          unfold lV lO
          by_cases h0 : m = 0
          · simp only [if_pos h0, List.append_nil]
            repeat (first|(with_reducible first|apply X3|apply X8)|((with_reducible apply e_end);(simp;exact Red.rfl))|((with_reducible apply O1);rfl;(simp (disch:=omega);exact Red.rfl);exact Red.rfl;(focus (first|(simp;done)|omega|(simp;omega)))))
            exact q_post (v' := .nilslice) (.inr rfl) (by simp; exact Red.rfl) (le_drop (by simp)) ⟨rfl, rfl⟩
          · simp only [if_neg h0]
            repeat (first|(with_reducible first|apply X3|apply X8)|((with_reducible apply e_end);(simp;exact Red.rfl))|((with_reducible apply O1);rfl;(simp (disch:=omega);exact Red.rfl);exact Red.rfl;(focus (first|(simp;done)|omega|(simp;omega)))))
            exact q_post (v' := .slice H.length 0 m 1 false) (.inr rfl) (by simp; exact Red.rfl) (le_plain [4] _ (by simp) rfl (by simp; exact pl.o _) (by simp [sh, AV.ren])) ⟨rfl, rfl⟩
end Go.Proofs
/- Who is safe, and who may be thrown where. -/
namespace Go.Proofs
open Go.Abs
attribute [local simp] AOp.den AOpd.ev lk cellsOf rd_new rd_new0 rd_zero rd_succ wr_new wr_new0 wr_zero wr_succ splice fillA binA scal sliceCells List.length_append argsT AV.sc scL AObj.sc resV getAll AR.get AOp.slots opdSlots opdsSlots partSlots eqAt at_new0 at_new set_new0 set_new wrap64
set_option linter.unusedSimpArgs false
set_option linter.unusedVariables false
/-- How many curves may throw. -/
def thN (t : Bool) (s : Sl) (l : List Str) : Nat := (thL t s l).length
theorem thN_zero {t : Bool} {s : Sl} {l : List Str} : thN t s l = 0 ↔ ∀ i, i < l.length → thrB t s l i = false := by
  unfold thN thL
  rw [List.length_eq_zero_iff, List.filter_eq_nil_iff]
  constructor
  · intro h i hi; have := h i (List.mem_range.2 hi); simpa using this
  · intro h i hi; have := h i (List.mem_range.1 hi); simp [this]
/-- The first one of them. -/
def thC (t : Bool) (s : Sl) (l : List Str) : Nat := (thL t s l).getD 0 0
theorem thC_is {t : Bool} {s : Sl} {l : List Str} (h : thN t s l ≠ 0) : thC t s l < l.length ∧ thrB t s l (thC t s l) = true ∧ ∀ j, j < thC t s l → thrB t s l j = false := by
  unfold thN at h
  have hpos : 0 < (thL t s l).length := by omega
  have e : thC t s l = (thL t s l)[0] := by unfold thC; rw [List.getD_eq_getElem?_getD, List.getElem?_eq_getElem hpos]; rfl
  have hm : thC t s l ∈ thL t s l := by rw [e]; exact List.getElem_mem _
  obtain ⟨h1, h2⟩ := List.mem_filter.1 hm
  refine ⟨List.mem_range.1 h1, h2, fun j hj => ?_⟩
  cases hb : thrB t s l j with
  | false => rfl
  | true =>
    exfalso
    have hjm : j ∈ thL t s l := List.mem_filter.2 ⟨List.mem_range.2 (by have := List.mem_range.1 h1; omega), hb⟩
    obtain ⟨p, hp, hpe⟩ := List.mem_iff_getElem.1 hjm
    have hpw : (thL t s l).Pairwise (· < ·) := List.Pairwise.filter _ List.pairwise_lt_range
    rcases Nat.eq_zero_or_pos p with h0 | h0
    · subst h0; rw [← e] at hpe; omega
    · have := List.pairwise_iff_getElem.1 hpw 0 p hpos hp h0
      rw [← e, hpe] at this; omega

theorem c_safe (H : Heap) (s : Sl) (l : List Str) (id off : Nat) (ex : Bool) (hs : rd H id off (l.length * 9) = some (l.flatMap Str.av)) (hv : validL l) (hk : s.ok) :
    ACalls Try.prog F.slide_slider_safe [.agg (s.av ++ [.slice id off l.length 9 ex])] H (fun v h' => v = .bool (decide (thN true s l = 0)) ∧ h' = H) := by
  have hid := rd_lt hs
  have cf := fun H' h => c_fastest H' s id off l.length ex h
  have ct := fun H' h => c_throwing true H' s l id off ex h hv hk
  have hN : (thL true s l).length = thN true s l := rfl
  simp only [trv, Sl.av, List.cons_append, List.nil_append] at cf ct ⊢
  refine acalls_of ok_slide_slider_safe rfl fun hcl => ?_
  unfold ac_slide_slider_safe
  simp only [argsT, Nat.zero_add, Nat.reduceAdd]
  repeat (first|(with_reducible first|apply X1|apply X2|apply X8)|((with_reducible apply e_end);(simp;exact Red.rfl))|((with_reducible apply O1);rfl;(simp (disch:=omega);exact Red.rfl);exact Red.rfl;(focus (first|(simp;done)|omega|(simp;omega)))))
  (with_reducible apply e_call); (simp; exact Red.rfl); exact cf _ (by simp; omega)
  rintro _ _ ⟨rfl, rfl⟩
  skip
  (with_reducible apply e_call); (simp; exact Red.rfl); exact ct _ (by rw [rd_old _ hid]; exact hs)
  rintro _ _ ⟨rfl, rfl⟩
  rw [hN]
  unfold lV lO
  by_cases h0 : thN true s l = 0
  · simp only [if_pos h0, List.append_nil]
    repeat (first|(with_reducible first|apply X3|apply X8)|((with_reducible apply e_end);(simp;exact Red.rfl))|((with_reducible apply O1);rfl;(simp (disch:=omega);exact Red.rfl);exact Red.rfl;(focus (first|(simp;done)|omega|(simp;omega)))))
    refine q_drop (.inr rfl) (by simp; exact Red.rfl) (by simp) ⟨by simp [h0], rfl⟩
  · simp only [if_neg h0]
    have h1 : ¬ ((thN true s l : Nat) : Int) = 0 := by omega
    repeat (first|(with_reducible first|apply X3|apply X8)|((with_reducible apply e_end);(simp;exact Red.rfl))|((with_reducible apply O1);rfl;(simp (disch:=omega) [h0, h1];exact Red.rfl);exact Red.rfl;(focus (first|(simp;done)|omega|(simp;omega)))))
    refine q_drop (.inr rfl) (by simp; exact Red.rfl) (by simp) ⟨by simp [h0], rfl⟩

/-- What is known of a sled. -/
def knF (s : Sl) (l : List Str) : Int := if thN true s l = 0 then 2 else if thN false s l = 0 then 1 else 0
theorem c_Safe (H : Heap) (l : List Str) (id off : Nat) (ex : Bool) (s : Sl) (hs : rd H id off (l.length * 9) = some (l.flatMap Str.av)) (hv : validL l) (hk : s.ok) :
    ACalls Try.prog F.slide_Safe [.agg [.slice id off l.length 9 ex], .agg s.av] H (fun v h' => v = .tuple [.int .u8 (knF s l), .int .i64 0] ∧ h' = H) := by
  have hid := rd_lt hs
  have h12 := hv.1
  have ck := fun H' h1 xid h2 => c_checkOne H' l id off ex s xid 0 true h1 hv hk h2
  have csf := fun H' h => c_safe H' s l id off ex h hv hk
  have cs := fun H' h => c_slowest H' s id off l.length ex h
  have ct := fun H' h => c_throwing false H' s l id off ex h hv hk
  have hN : (thL false s l).length = thN false s l := rfl
  unfold knF
  simp only [trv, Sl.av, List.cons_append, List.nil_append] at ck csf cs ct ⊢
  refine acalls_of ok_slide_Safe rfl fun hcl => ?_
  unfold ac_slide_Safe
  simp only [argsT, Nat.zero_add, Nat.reduceAdd]
  repeat (first|(with_reducible first|apply X1|apply X2|apply X8)|((with_reducible apply e_end);(simp;exact Red.rfl))|((with_reducible apply O1);rfl;(simp (disch:=omega);exact Red.rfl);exact Red.rfl;(focus (first|(simp;done)|omega|(simp;omega)))))
  (with_reducible apply e_call); (simp; exact Red.rfl); exact ck _ (by rw [rd_old _ hid]; exact hs) _ (by simp)
  rintro _ _ ⟨rfl, rfl⟩
  repeat (first|(with_reducible first|apply X1|apply X2|apply X5|apply X6|apply X8)|((with_reducible apply e_end);(simp;exact Red.rfl))|((first|((with_reducible apply O1);rfl)|((with_reducible apply O2);rfl));(simp (disch:=omega);exact Red.rfl);exact Red.rfl;(focus (first|(simp;done)|omega|(simp;omega))))|((with_reducible apply W3);(simp (disch:=omega);exact Red.rfl)))
  (with_reducible apply e_call); (simp; exact Red.rfl); exact csf _ (by rw [rd_old _ hid]; exact hs)
  rintro _ _ ⟨rfl, rfl⟩
  by_cases h0 : thN true s l = 0
  · repeat (first|(with_reducible first|apply X1|apply X2|apply X3|apply X8|apply X9|apply Y3)|((with_reducible apply e_end);(simp;exact Red.rfl))|((with_reducible apply O1);rfl;(simp (disch:=omega) [h0];exact Red.rfl);exact Red.rfl;(focus (first|(simp;done)|omega|(simp;omega))))|((with_reducible apply Z9);(simp (disch:=omega) [h0];exact Red.rfl)))
    refine q_drop (.inr rfl) (by simp; exact Red.rfl) (by simp) ⟨by simp [h0], rfl⟩
  · repeat (first|(with_reducible first|apply X1|apply X2|apply X8)|((with_reducible apply e_end);(simp;exact Red.rfl))|((with_reducible apply O1);rfl;(simp (disch:=omega) [h0];exact Red.rfl);exact Red.rfl;(focus (first|(simp;done)|omega|(simp;omega))))|((with_reducible apply W3);(simp (disch:=omega) [h0];exact Red.rfl)))
    (with_reducible apply e_call); (simp; exact Red.rfl); exact cs _ (by simp; omega)
    rintro _ _ ⟨rfl, rfl⟩
    skip
    (with_reducible apply e_call); (simp; exact Red.rfl); exact ct _ (by simp only [List.append_assoc, rd_old _ hid]; exact hs)
    rintro _ _ ⟨rfl, rfl⟩
    rw [hN]
    unfold lV lO
    by_cases h1 : thN false s l = 0
    · simp only [if_pos h1, List.append_nil]
      repeat (first|(with_reducible first|apply X1|apply X2|apply X3|apply X5|apply X8|apply Y2)|((with_reducible apply e_end);(simp;exact Red.rfl))|((with_reducible apply O1);rfl;(simp (disch:=omega);exact Red.rfl);exact Red.rfl;(focus (first|(simp;done)|omega|(simp;omega))))|((with_reducible apply W3);(simp (disch:=omega);exact Red.rfl)))
      refine q_drop (.inr rfl) (by simp; exact Red.rfl) (by simp) ⟨by simp [h0, h1], rfl⟩
    · simp only [if_neg h1]
      have h2 : 0 < ((thN false s l : Nat) : Int) := by omega
      have h3 : 0 < thN false s l := by omega
      repeat (first|(with_reducible first|apply X1|apply X2|apply X3|apply X8|apply X9|apply Y3)|((with_reducible apply e_end);(simp;exact Red.rfl))|((with_reducible apply O1);rfl;(simp (disch:=omega) [h2, h3];exact Red.rfl);exact Red.rfl;(focus (first|(simp;done)|omega|(simp;omega))))|((with_reducible apply Z9);(simp (disch:=omega) [h2, h3];exact Red.rfl)))
      refine q_drop (.inr rfl) (by simp; exact Red.rfl) (by simp) ⟨by simp [h0, h1], rfl⟩

/-- The least number of which something is so, up to one. -/
def leastF (p : Int → Bool) : Nat → Nat
  | 0 => 0
  | n + 1 => if p (leastF p n) = true then leastF p n else if leastF p n = n then n + 1 else leastF p n
theorem leastF_is (p : Int → Bool) : ∀ n, leastF p n ≤ n ∧ (∀ m : Nat, m < leastF p n → p m = false) ∧ (leastF p n < n → p (leastF p n) = true)
  | 0 => ⟨Nat.le_refl _, fun m h => by simp [leastF] at h, fun h => by simp [leastF] at h⟩
  | n + 1 => by
    obtain ⟨h1, h2, h3⟩ := leastF_is p n
    simp only [leastF]
    by_cases hp : p (leastF p n) = true
    · rw [if_pos hp]; exact ⟨by omega, h2, fun _ => hp⟩
    · rw [if_neg hp]
      by_cases he : leastF p n = n
      · rw [if_pos he]
        refine ⟨Nat.le_refl _, fun m hm => ?_, fun h => by omega⟩
        rcases Nat.lt_or_ge m n with h | h
        · exact h2 m (by omega)
        · obtain rfl : m = leastF p n := by omega
          simpa using hp
      · rw [if_neg he]; exact absurd (h3 (by omega)) hp
theorem least_uniq {p : Int → Bool} {n : Nat} {r : Int} (h0 : 0 ≤ r) (hn : r ≤ n) (h1 : ∀ m, 0 ≤ m → m < r → p m = false) (h2 : ∀ m, r ≤ m → m < n → p m = true) : r = leastF p n := by
  obtain ⟨g1, g2, g3⟩ := leastF_is p n
  rcases Int.lt_trichotomy r (leastF p n) with h | h | h
  · have e1 := g2 r.toNat (by omega)
    have e2 := h2 r (Int.le_refl _) (by omega)
    rw [Int.toNat_of_nonneg h0, e2] at e1; cases e1
  · exact h
  · have e1 := h1 (leastF p n) (by omega) h
    rw [g3 (by omega)] at e1; cases e1

theorem c_firstL (H : Heap) (g : FuncId) (caps : List AV) (b : Int) (p : Int → Bool) (hab : 0 ≤ b) (hb : b ≤ 4000000000000000000) (hcaps : scL H.length caps = true)
    (hp : ∀ m, 0 ≤ m → m < b → ACalls Try.prog g (.int .i64 m :: caps) H (fun v h' => v = .bool (p m) ∧ h' = H)) (hm : ∀ m, 0 ≤ m → m + 1 < b → p m = true → p (m + 1) = true) :
    ACalls Try.prog F.span_First_int [.int .i64 0, .int .i64 b, .fn (.func g) [] caps] H (fun v h' => v = .int .i64 (leastF p b.toNat) ∧ h' = H) :=
  (c_first H g caps 0 b p (Int.le_refl _) hab hb hcaps hp hm).mono fun _ _ ⟨he, r, hv, h1, h2, h3, h4⟩ => ⟨by rw [hv, least_uniq (p := p) (n := b.toNat) h1 (by omega) h3 (fun m q1 q2 => h4 m q1 (by omega))], he⟩

/-- Whether a curve throws at a head. -/
def thrP (t : Bool) (s : Sl) (l : List Str) (i : Nat) (x : Int) : Bool := decide ((strAt l i).wall < htF x (dn t (strAt l i).rLo (strAt l i).rHi) (up t s.t1 s.t2))
theorem thrP_mono {t : Bool} {s : Sl} {l : List Str} {i : Nat} (hr : 1 ≤ dn t (strAt l i).rLo (strAt l i).rHi) {x y : Int} (hx : 0 ≤ x) (hxy : x ≤ y) (h : thrP t s l i x = true) : thrP t s l i y = true := by
  simp only [thrP, decide_eq_true_eq] at h ⊢
  have := ht_mono (t := up t s.t1 s.t2) (t' := up t s.t1 s.t2) hx hxy (show 0 < dn t (strAt l i).rLo (strAt l i).rHi by omega) (Int.le_refl _) (Int.le_refl _)
  omega
/-- The head at which a curve throws, at least. -/
def nmR (s : Sl) (l : List Str) : Int := leastF (thrP true s l (thC true s l)) (wiF (hd true s l) (thC true s l)).toNat

theorem c_Names1 (H : Heap) (s : Sl) (l : List Str) (id off : Nat) (ex : Bool) (tid cid i : Nat) (x : Int) (hs : rd H id off (l.length * 9) = some (l.flatMap Str.av)) (hv : validL l) (hk : s.ok)
    (ht : rd H tid 0 14 = some (trv true s (.slice id off l.length 9 ex))) (hc : rd H cid 0 1 = some [.int .i64 i]) (hi : i < l.length) (hside : (strAt l i).side ≠ 0) (hx : 0 ≤ x ∧ x ≤ 260000) :
    ACalls Try.prog F.slide_Names_1 [.int .i64 x, .ptr tid 0, .ptr cid 0] H (fun v h' => v = .bool (thrP true s l i x) ∧ h' = H) := by
  have cth := c_throws true H s l id off ex hs hv hk i hi x hx hside
  simp only [trv, Sl.av, List.cons_append, List.nil_append] at ht cth
  refine acalls_of ok_slide_Names_1 rfl fun hcl => ?_
  unfold ac_slide_Names_1
  simp only [argsT, Nat.zero_add, Nat.reduceAdd]
  repeat (first|(with_reducible first|apply X1|apply X2|apply X8)|((with_reducible apply e_end);(simp;exact Red.rfl))|((with_reducible apply O1);rfl;(simp (disch:=omega) [ht, hc];exact Red.rfl);exact Red.rfl;(focus (first|(simp;done)|omega|(simp;omega)))))
  (with_reducible apply e_call); (simp; exact Red.rfl); exact cth
  rintro _ _ ⟨rfl, rfl⟩
  repeat (first|(with_reducible first|apply X3|apply X8)|((with_reducible apply e_end);(simp;exact Red.rfl))|((with_reducible apply O1);rfl;(simp (disch:=omega);exact Red.rfl);exact Red.rfl;(focus (first|(simp;done)|omega|(simp;omega)))))
  refine q_drop0 (.inr rfl) (by simp; exact Red.rfl) (by simp) ⟨rfl, rfl⟩

theorem c_Names (H : Heap) (l : List Str) (id off : Nat) (ex : Bool) (s : Sl) (hs : rd H id off (l.length * 9) = some (l.flatMap Str.av)) (hv : validL l) (hk : s.ok) :
    ACalls Try.prog F.slide_Names [.agg [.slice id off l.length 9 ex], .agg s.av] H (fun v h' => h' = H ∧ ((thN true s l = 0 ∧ v = .tuple [.int .i64 0, .int .i64 0, .int .i64 6]) ∨ (thN true s l ≠ 0 ∧ v = .tuple [.int .i64 (thC true s l), .int .i64 (dnV (nmR s l)), .int .i64 0]))) := by
  have hid := rd_lt hs
  have h12 := hv.1
  have ck := fun H' h1 xid h2 => c_checkOne H' l id off ex s xid 0 true h1 hv hk h2
  have cf := fun H' h => c_fastest H' s id off l.length ex h
  have ct := fun H' h => c_throwing true H' s l id off ex h hv hk
  have cw := fun H' h => c_swithin true H' s l id off ex h hv hk
  have hN : (thL true s l).length = thN true s l := rfl
  have c1 := fun H' tid cid i x h h2 h3 h4 h5 h6 => c_Names1 H' s l id off ex tid cid i x h hv hk h2 h3 h4 h5 h6
  simp only [trv, Sl.av, List.cons_append, List.nil_append] at ck cf ct cw c1 ⊢
  refine acalls_of ok_slide_Names rfl fun hcl => ?_
  unfold ac_slide_Names
  simp only [argsT, Nat.zero_add, Nat.reduceAdd]
  repeat (first|(with_reducible first|apply X1|apply X2|apply X8)|((with_reducible apply e_end);(simp;exact Red.rfl))|((with_reducible apply O1);rfl;(simp (disch:=omega);exact Red.rfl);exact Red.rfl;(focus (first|(simp;done)|omega|(simp;omega)))))
  (with_reducible apply e_call); (simp; exact Red.rfl); exact ck _ (by rw [rd_old _ hid]; exact hs) _ (by simp)
  rintro _ _ ⟨rfl, rfl⟩
  repeat (first|(with_reducible first|apply X1|apply X2|apply X5|apply X8)|((with_reducible apply e_end);(simp;exact Red.rfl))|((with_reducible apply O1);rfl;(simp (disch:=omega);exact Red.rfl);exact Red.rfl;(focus (first|(simp;done)|omega|(simp;omega))))|((with_reducible apply W3);(simp (disch:=omega);exact Red.rfl)))
  (with_reducible apply e_call); (simp; exact Red.rfl); exact cf _ (by simp; omega)
  rintro _ _ ⟨rfl, rfl⟩
  repeat (first|(with_reducible first|apply X1|apply X2|apply X8)|((with_reducible apply e_end);(simp;exact Red.rfl))|((first|((with_reducible apply O1);rfl)|((with_reducible apply O2);rfl));(simp (disch:=omega);exact Red.rfl);exact Red.rfl;(focus (first|(simp;done)|omega|(simp;omega)))))
  (with_reducible apply e_call); (simp; exact Red.rfl); exact ct _ (by simp only [List.append_assoc, rd_old _ hid]; exact hs)
  rintro _ _ ⟨rfl, rfl⟩
  rw [hN]
  unfold lV lO
  by_cases h0 : thN true s l = 0
  · simp only [if_pos h0, List.append_nil]
    repeat (first|(with_reducible first|apply X1|apply X2|apply X3|apply X8|apply X9)|((with_reducible apply e_end);(simp;exact Red.rfl))|((first|((with_reducible apply O1);rfl)|((with_reducible apply O2);rfl));(simp (disch:=omega);exact Red.rfl);exact Red.rfl;(focus (first|(simp;done)|omega|(simp;omega))))|((with_reducible apply Z9);(simp (disch:=omega);exact Red.rfl)))
    refine q_drop (.inr rfl) (by simp; exact Red.rfl) (by simp) ⟨rfl, .inl ⟨h0, rfl⟩⟩
  · simp only [if_neg h0]
    obtain ⟨k1, k2, k3⟩ := thC_is h0
    have h1 : ¬ ((thN true s l : Nat) : Int) = 0 := by omega
    have h2 : 0 < thN true s l := by omega
    have h3 : (0 : Int) < ((thN true s l : Nat) : Int) := by omega
    have h4 : 1 ≤ thN true s l := h2
    have e0 : thK true s l 0 = (thC true s l : Nat) := rfl
    have q0 : (avR (r1 (thK true s l)) (thN true s l)).take 1 = [.int .i64 (thC true s l : Nat)] := by
      have := (plain_r1 (thK true s l)).part (n := thN true s l) (i := 0) (c := 0) (m := 1) h2 (by omega)
      simpa [r1, e0] using this
    have ll := (plain_r1 (thK true s l)).length (thN true s l)
    repeat (first|(with_reducible first|apply X1|apply X2|apply X5|apply X8|apply Y9)|((with_reducible apply e_end);(simp;exact Red.rfl))|((first|((with_reducible apply O1);rfl)|((with_reducible apply O2);rfl)|((with_reducible apply P2);rfl));(simp (disch:=omega) [h0, h1, h2, h3, h4, q0, ll];exact Red.rfl);exact Red.rfl;(focus (first|(simp;done)|omega|(simp;omega))))|((with_reducible apply W3);(simp (disch:=omega) [h0, h1, h2, h3, h4, q0, ll];exact Red.rfl)))
    have hsd : (strAt l (thC true s l)).side ≠ 0 := by
      simp only [thrB, decide_eq_true_eq] at k2; exact k2.1
    have hrad := curve_rad hv k1 hsd
    have cb := wi_bd hv hk true k1
    have qW : ((avR (r1 (wiF (hd true s l))) l.length).drop (thC true s l)).take 1 = [.int .i64 (wiF (hd true s l) (thC true s l))] := by
      simpa [r1] using (plain_r1 (wiF (hd true s l))).part (n := l.length) (i := thC true s l) (c := 0) (m := 1) k1 (by omega)
    have lw := (plain_r1 (wiF (hd true s l))).length l.length
    have hR : nmR s l = leastF (thrP true s l (thC true s l)) (wiF (hd true s l) (thC true s l)).toNat := rfl
    have hRb := (leastF_is (thrP true s l (thC true s l)) (wiF (hd true s l) (thC true s l)).toNat).1
    have pmono : ∀ m, 0 ≤ m → m + 1 < wiF (hd true s l) (thC true s l) → thrP true s l (thC true s l) m = true → thrP true s l (thC true s l) (m + 1) = true :=
      fun m hm _ h => thrP_mono (by rw [show dn true (strAt l (thC true s l)).rLo (strAt l (thC true s l)).rHi = (strAt l (thC true s l)).rLo from rfl]; omega) hm (by omega) h
    have e1 : thC true s l + 1 ≤ l.length := k1
    have e2 : ((thC true s l : Nat) : Int) < l.length := by omega
    (with_reducible apply d_call_); (simp; exact Red.rfl); exact cw _ (by simp only [List.append_assoc, rd_old _ hid]; exact hs); (focus (first | (simp; done) | (simp; omega)))
    generalize hcc : thC true s l = cu at *
    repeat (first|((first|((with_reducible apply P1);rfl)|((with_reducible apply P2);rfl));(simp (disch:=omega) [qW, lw, e1, e2, k1];exact Red.rfl);exact Red.rfl;(focus (first|(simp;done)|omega|(simp;omega))))|((with_reducible apply P7);rfl;(simp (disch:=omega) [qW, lw, e1, e2, k1];exact Red.rfl);exact Red.rfl;(focus (simp [repast, pr, AOp.sem];done))))
    (with_reducible apply d_call); (simp; exact Red.rfl)
    · exact c_firstL _ F.slide_Names_1 [.ptr (H.length + 4) 0, .ptr (H.length + 2) 0] (wiF (hd true s l) cu) (thrP true s l cu) (by omega) (by omega) (by simp)
        (fun m hm hm2 => c1 _ (H.length + 4) (H.length + 2) cu m (by simp only [List.append_assoc, rd_old _ hid]; exact hs) (by simp) (by simp) k1 hsd (by omega)) pmono
    · simp
    rw [← hR]
    have hRb2 : 0 ≤ nmR s l ∧ nmR s l ≤ 260000 := by rw [hR]; omega
    generalize nmR s l = rr at hRb2 ⊢
    repeat (first|(with_reducible first|apply X1|apply X8|apply Y9)|((with_reducible apply d_end);(simp;exact Red.rfl))|((first|((with_reducible apply P1);rfl)|((with_reducible apply P2);rfl));(simp (disch:=omega);exact Red.rfl);exact Red.rfl;(focus (first|(simp;done)|omega|(simp;omega)))))
    (with_reducible apply d_call); (simp; exact Red.rfl); exact c_speedOf' _ _ (by omega); (focus (first | (simp; done) | (simp; omega)))
    repeat (first|(with_reducible first|apply X3|apply X8)|((with_reducible apply d_end);(simp;exact Red.rfl))|((first|((with_reducible apply P1);rfl)|((with_reducible apply P4);rfl));(simp (disch:=omega);exact Red.rfl);exact Red.rfl;(focus (first|(simp;done)|omega|(simp;omega)))))
    refine q_drop (.inr rfl) (by simp; exact Red.rfl) (by simp) ⟨rfl, .inr ⟨h0, rfl⟩⟩
end Go.Proofs
/- SlideStart, the law's contract. -/
namespace Go.Proofs
open Go.Abs
attribute [local simp] AOp.den AOpd.ev lk cellsOf rd_new rd_new0 rd_zero rd_succ wr_new wr_new0 wr_zero wr_succ splice fillA binA scal sliceCells List.length_append argsT AV.sc scL AObj.sc resV getAll AR.get AOp.slots opdSlots opdsSlots partSlots eqAt at_new0 at_new set_new0 set_new wrap64
set_option linter.unusedSimpArgs false
set_option linter.unusedVariables false
/-- A sled with a start from 0 on. -/
def stS (s : Sl) (m : Int) : Sl := ⟨s.c, 0, m, s.r1, s.r2, s.d1, s.d2, s.w1, s.w2, s.t1, s.t2⟩
theorem st_ok {s : Sl} (h : s.ok) {m : Int} (hm : 0 ≤ m ∧ m ≤ 200000) : (stS s m).ok := by simp only [Sl.ok, stS] at h ⊢; omega
/-- Whether a sled may be thrown from a start. -/
def stP (s : Sl) (l : List Str) (m : Int) : Bool := !decide (thN true (stS s m) l = 0)
theorem hd_start {s s' : Sl} {l : List Str} (hv : validL l) (hs : s.ok) (he : s'.s2 ≤ s.s2 ∧ 0 ≤ s'.s2) (hr : s'.r1 = s.r1) (hd' : s'.d1 = s.d1) (hw : s'.w2 = s.w2) {i : Nat} (hi : i ≤ l.length) : hd true s' l i ≤ hd true s l i ∧ 0 ≤ hd true s' l i := by
  obtain ⟨k0, k1, k2, k3, k4, k5⟩ := hs
  have := hdG_mono (st := s'.s2) (st' := s.s2) (d := s'.d1) (d' := s.d1) (w := s'.w2) (w' := s.w2) (r := fun _ => s'.r1) (r' := fun _ => s.r1) (L := fun j => (strAt l j).lLo) (L' := fun j => (strAt l j).lLo) (f := fun j => (strAt l j).fHi) (f' := fun j => (strAt l j).fHi) (n := l.length)
    he.2 he.1 (by omega) (by omega) (by omega) (by omega) (fun j _ => by omega) (fun j hj => by have := (str_ok hv hj).2.2; omega) (fun j _ => Int.le_refl _) i hi
  exact ⟨this.2, this.1⟩
theorem thr_start {s s' : Sl} {l : List Str} (hv : validL l) (hs : s.ok) (he : s'.s2 ≤ s.s2 ∧ 0 ≤ s'.s2) (hr : s'.r1 = s.r1) (hd' : s'.d1 = s.d1) (hw : s'.w2 = s.w2) (ht : s'.t2 = s.t2) (h : thN true s l = 0) : thN true s' l = 0 := by
  rw [thN_zero] at h ⊢
  intro i hi
  have h1 := h i hi
  have a := hd_start hv hs he hr hd' hw (i := i) (by omega)
  have b := hd_start hv hs he hr hd' hw (i := i + 1) (by omega)
  simp only [thrB, decide_eq_false_iff_not, not_and, Int.not_lt] at h1 ⊢
  intro hc
  have h2 := h1 hc
  have hrad := curve_rad hv hi hc
  have := ht_mono (h := wiF (hd true s' l) i) (h' := wiF (hd true s l) i) (r := dn true (strAt l i).rLo (strAt l i).rHi) (r' := dn true (strAt l i).rLo (strAt l i).rHi) (t := up true s'.t1 s'.t2) (t' := up true s.t1 s.t2)
    (by unfold wiF; omega) (by unfold wiF; omega) (by rw [show dn true (strAt l i).rLo (strAt l i).rHi = (strAt l i).rLo from rfl]; omega) (Int.le_refl _) (by rw [show up true s'.t1 s'.t2 = s'.t2 from rfl, show up true s.t1 s.t2 = s.t2 from rfl]; omega)
  omega
theorem stP_mono {s : Sl} {l : List Str} (hv : validL l) (hs : s.ok) {a b : Int} (ha : 0 ≤ a) (hab : a ≤ b) (hb : b ≤ 200000) (h : stP s l a = true) : stP s l b = true := by
  simp only [stP, Bool.not_eq_true', decide_eq_false_iff_not] at h ⊢
  intro h2
  exact h (thr_start hv (st_ok hs ⟨by omega, hb⟩) ⟨hab, ha⟩ rfl rfl rfl rfl h2)

/-- The same memory, but for old objects that hold other old things now. -/
def Chg2 (H H2 : Heap) : Prop := H2.length = H.length ∧ ∀ (i : Nat) (o : AObj), H2[i]? = some o → H[i]? = some o ∨ o.sc H.length = true
theorem Chg2.rfl' (H : Heap) : Chg2 H H := ⟨rfl, fun _ _ h => .inl h⟩
theorem chg2_set (H : Heap) (id : Nat) (o : AObj) (hp : o.sc H.length = true) : Chg2 H (H.set id o) := by
  refine ⟨by simp, fun i o' h => ?_⟩
  rw [List.getElem?_set] at h
  split at h
  · split at h
    · simp only [Option.some.injEq] at h; subst h; exact .inr hp
    · cases h
  · exact .inl h
theorem le_chg2 {H H2 : Heap} {s s' : St} (hc : Chg2 H H2) (h : Le H2 s s') : Le H s s' := by
  obtain ⟨n, ρ, h1, h2, h3, h4⟩ := h
  refine ⟨by rw [← hc.1]; exact n, ρ, fun i hi => h1 i (by rw [hc.1]; exact hi), fun i o hi => ?_, h3, h4⟩
  rcases h2 i o hi with h | ⟨h5, h6⟩ | h
  · exact .inl h
  · rcases hc.2 i o h5 with h7 | h7
    · exact .inr (.inl ⟨h7, h6⟩)
    · have h8 : i < H2.length := (List.getElem?_eq_some_iff.1 h5).1
      refine .inr (.inr ⟨asc_mono (by rw [← hc.1]; exact n) _ h7, ?_⟩)
      rw [h1 i h8, h6, aren_id (m := H.length) (fun j hj => h1 j (by rw [hc.1]; exact hj)) _ h7]
  · exact .inr (.inr h)
theorem q_dropE0 {H H2 : Heap} {t : List (Nat × AV)} {rs : List AR} {R : AV → Heap → Prop} {e : Exit} {v : AV} (hc : Chg2 H H2) (he : e = .normal ∨ e = .ret) (hv : Red (resV ⟨t, H2⟩ rs) (some v)) (hs : v.sc H.length = true) (hr : R v H2) : EQ (Post H rs R) e t H2 :=
  q_post he hv (le_chg2 hc (le_id (by simp [hs, lk, hc.1]))) hr

/-- The first number, where what is asked leaves something in memory. -/
theorem c_firstM (H : Heap) (W : Int → Heap) (g : FuncId) (caps : List AV) (b : Int) (p : Int → Bool) (hab : 0 ≤ b) (hb : b ≤ 4000000000000000000) (hcaps : scL H.length caps = true) (hW : ∀ m, Chg2 H (W m))
    (hp : ∀ m G, 0 ≤ m → m < b → (G = H ∨ ∃ m0, G = W m0) → ACalls Try.prog g (.int .i64 m :: caps) G (fun v h' => v = .bool (p m) ∧ h' = W m)) (hm : ∀ x y, 0 ≤ x → x ≤ y → y < b → p x = true → p y = true) :
    ACalls Try.prog F.span_First_int [.int .i64 0, .int .i64 b, .fn (.func g) [] caps] H (fun v h' => v = .int .i64 (leastF p b.toNat) ∧ (h' = H ∨ ∃ m0, h' = W m0)) := by
  refine acalls_of ok_span_First_int rfl fun hcl => ?_
  unfold ac_span_First_int
  simp only [argsT, Nat.zero_add, Nat.reduceAdd]
  repeat (first|(with_reducible first|apply X1|apply X2|apply X6|apply X8)|((with_reducible apply e_end);(simp;exact Red.rfl))|((with_reducible apply O1);rfl;(simp (disch:=omega);exact Red.rfl);exact Red.rfl;(focus (first|(simp;done)|omega|(simp;omega)))))
  refine e_loop (ι := { x : (Int × Int) × Heap // 0 ≤ x.1.1 ∧ x.1.1 ≤ x.1.2 ∧ x.1.2 ≤ b ∧ (∀ m, 0 ≤ m → m < x.1.1 → p m = false) ∧ (∀ m, x.1.2 ≤ m → m < b → p m = true) ∧ (x.2 = H ∨ ∃ m0, x.2 = W m0) })
    (fun x => [(0, .int .i64 x.1.1.1), (1, .int .i64 x.1.1.2), (2, .fn (.func g) [] caps)]) (fun x => x.1.2) (fun x => (x.1.1.2 - x.1.1.1).toNat) ⟨((0, b), H), by simp only; omega, hab, by simp, fun _ _ h => by simp only at h; omega, fun _ h _ => by simp only at h; omega, .inl rfl⟩ ?_ ?_
  · exact .inl rfl
  · rintro ⟨⟨⟨x, y⟩, G⟩, h1, h2, h3, h4, h5, h6⟩
    dsimp only at h1 h2 h3 h4 h5 h6 ⊢
    have hG : Chg2 H G := by
      rcases h6 with rfl | ⟨m0, rfl⟩
      · exact Chg2.rfl' _
      · exact hW m0
    repeat (first|(with_reducible first|apply X1|apply X2|apply X8)|((with_reducible apply e_end);(simp;exact Red.rfl))|((with_reducible apply O1);rfl;(simp (disch:=omega);exact Red.rfl);exact Red.rfl;(focus (first|(simp;done)|omega|(simp;omega)))))
    (with_reducible apply e_dec); (simp; exact Red.rfl)
    · intro hlt
      have ht : (y - x).tdiv 2 = (y - x) / 2 := Int.tdiv_eq_ediv_of_nonneg (by omega)
      repeat (first|(with_reducible first|apply X1|apply X2|apply X5|apply X6|apply X8)|((with_reducible apply e_end);(simp;exact Red.rfl))|((with_reducible apply O1);rfl;(simp (disch:=omega) [ht];exact Red.rfl);exact Red.rfl;(focus (first|(simp;done)|omega|(simp;omega)))))
      have hmid : x ≤ x + (y - x) / 2 ∧ x + (y - x) / 2 < y := by omega
      generalize x + (y - x) / 2 = m at hmid
      (with_reducible apply e_callV); (simp; exact Red.rfl); (simp; exact Red.rfl); exact hp m G (by omega) (by omega) h6
      rintro _ _ ⟨rfl, rfl⟩
      cases hpm : p m with
      | true =>
        repeat (first|(with_reducible first|apply X2|apply X8|apply Y2)|((with_reducible apply e_end);(simp;exact Red.rfl))|((with_reducible apply O1);rfl;(simp (disch:=omega) [hpm];exact Red.rfl);exact Red.rfl;(focus (first|(simp;done)|omega|(simp;omega))))|((with_reducible apply Z9);(simp (disch:=omega) [hpm];exact Red.rfl)))
        exact q_again ⟨((x, m), W m), h1, by simp only; omega, by simp only; omega, h4, fun m' h6 h7 => hm m m' (by omega) h6 h7 hpm, .inr ⟨m, rfl⟩⟩ (by dsimp only; omega) (.inl rfl)
      | false =>
        repeat (first|(with_reducible first|apply X2|apply X8|apply Y2)|((with_reducible apply e_end);(simp;exact Red.rfl))|((with_reducible apply O1);rfl;(simp (disch:=omega) [hpm];exact Red.rfl);exact Red.rfl;(focus (first|(simp;done)|omega|(simp;omega))))|((with_reducible apply W3);(simp (disch:=omega) [hpm];exact Red.rfl)))
        refine q_again ⟨((m + 1, y), W m), by simp only; omega, by simp only; omega, h3, fun m' h6 h7 => ?_, h5, .inr ⟨m, rfl⟩⟩ (by dsimp only; omega) (.inl rfl)
        simp only at h7
        cases hpm' : p m' with
        | false => rfl
        | true => have := hm m' m h6 (by omega) (by omega) hpm'; rw [hpm] at this; cases this
    · intro hge
      repeat (first|(with_reducible first|apply X1|apply X2|apply X3|apply X4|apply X8|apply Y1|apply Y4|apply Y6)|((with_reducible apply e_end);(simp;exact Red.rfl))|((with_reducible apply O1);rfl;(simp (disch:=omega);exact Red.rfl);exact Red.rfl;(focus (first|(simp;done)|omega|(simp;omega)))))
      obtain rfl : x = y := by omega
      have hr := least_uniq (p := p) (n := b.toNat) h1 (by omega) h4 (fun m q1 q2 => h5 m q1 (by omega))
      exact q_dropE0 hG (.inr rfl) (by simp; exact Red.rfl) (by simp) ⟨by rw [hr], h6⟩

theorem c_Start1 (H : Heap) (s : Sl) (l : List Str) (id off wid : Nat) (ex : Bool) (x y m : Int) (hs : rd H id off (l.length * 9) = some (l.flatMap Str.av)) (hv : validL l) (hk : s.ok) (hm : 0 ≤ m ∧ m ≤ 200000)
    (hw : H[wid]? = some (.cells ((⟨s.c, x, y, s.r1, s.r2, s.d1, s.d2, s.w1, s.w2, s.t1, s.t2⟩ : Sl).av ++ [.slice id off l.length 9 ex]) true)) (hne : id ≠ wid) :
    ACalls Try.prog F.slide_Start_1 [.int .i64 m, .ptr wid 0] H (fun v h' => v = .bool (stP s l m) ∧ h' = H.set wid (.cells ((stS s m).av ++ [.slice id off l.length 9 ex]) true)) := by
  have hwid := (List.getElem?_eq_some_iff.1 hw).1
  have hid := rd_lt hs
  have csf := fun H' h => c_safe H' (stS s m) l id off ex h hv (st_ok hk hm)
  have w1 : wr H wid 1 [.int .i64 0, .int .i64 m] = some (H.set wid (.cells ((stS s m).av ++ [.slice id off l.length 9 ex]) true)) := by
    simp [wr, hw, Sl.av, stS, splice]
  have r1 : rd (H.set wid (.cells ((stS s m).av ++ [.slice id off l.length 9 ex]) true)) wid 0 12 = some ((stS s m).av ++ [.slice id off l.length 9 ex]) := by
    simp [rd, hwid, Sl.av, stS]
  have r2 : rd (H.set wid (.cells ((stS s m).av ++ [.slice id off l.length 9 ex]) true)) id off (l.length * 9) = some (l.flatMap Str.av) := by
    unfold rd at hs ⊢
    rw [List.getElem?_set_ne (Ne.symm hne)]
    exact hs
  have csf1 := csf _ r2
  have hsc : (AObj.cells ((stS s m).av ++ [.slice id off l.length 9 ex]) true).sc H.length = true := by simp [Sl.av, stS, hid]
  refine acalls_of ok_slide_Start_1 rfl fun hcl => ?_
  unfold ac_slide_Start_1
  simp only [argsT, Nat.zero_add, Nat.reduceAdd]
  repeat (first|(with_reducible first|apply X1|apply X2|apply X8)|((with_reducible apply e_end);(simp;exact Red.rfl))|((with_reducible apply O1);rfl;(simp (disch:=omega);exact Red.rfl);exact Red.rfl;(focus (first|(simp;done)|omega|(simp;omega)))))
  (with_reducible apply e_call); (simp; exact Red.rfl); exact c_upto _ _
  rintro _ _ ⟨rfl, rfl⟩
  repeat (first|(with_reducible first|apply X1|apply X2|apply X8)|((with_reducible apply e_end);(simp;exact Red.rfl))|((first|((with_reducible apply O1);rfl)|((with_reducible apply O2);rfl));(simp (disch:=omega) [w1];exact Red.rfl);exact Red.rfl;(focus (first|(simp;done)|omega|(simp;omega)))))
  repeat ((with_reducible apply O1);rfl;(simp (disch:=omega) [r1];exact Red.rfl);exact Red.rfl;(focus (first|(simp;done)|omega|(simp;omega))))
  (with_reducible apply e_call); (simp; exact Red.rfl); exact csf1
  rintro _ _ ⟨rfl, rfl⟩
  repeat (first|(with_reducible first|apply X3|apply X8)|((with_reducible apply e_end);(simp;exact Red.rfl))|((with_reducible apply O1);rfl;(simp (disch:=omega);exact Red.rfl);exact Red.rfl;(focus (first|(simp;done)|omega|(simp;omega)))))
  exact q_post (v' := .bool (!decide (thN true (stS s m) l = 0))) (.inr rfl) (by simp; exact Red.rfl) (le_chg2 (chg2_set _ _ _ hsc) (le_id (by simp))) ⟨rfl, rfl⟩

theorem c_Start (H : Heap) (l : List Str) (id off : Nat) (ex : Bool) (s : Sl) (hs : rd H id off (l.length * 9) = some (l.flatMap Str.av)) (hv : validL l) (hk : s.ok) :
    ACalls Try.prog F.slide_Start [.agg [.slice id off l.length 9 ex], .agg s.av] H (fun v h' => h' = H ∧ ((leastF (stP s l) 200001 = 0 ∧ v = .tuple [.int .i64 0, .int .i64 6]) ∨ (leastF (stP s l) 200001 ≠ 0 ∧ v = .tuple [.int .i64 ((leastF (stP s l) 200001 : Nat) - 1), .int .i64 0]))) := by
  have hid := rd_lt hs
  have h12 := hv.1
  have ck := fun H' h1 xid h2 => c_checkOne H' l id off ex s xid 0 true h1 hv hk h2
  have c1 := fun H' wid x y m h hm hw hne => c_Start1 H' s l id off wid ex x y m h hv hk hm hw hne
  simp only [Sl.av, List.cons_append, List.nil_append] at ck c1 ⊢
  refine acalls_of ok_slide_Start rfl fun hcl => ?_
  unfold ac_slide_Start
  simp only [argsT, Nat.zero_add, Nat.reduceAdd]
  repeat (first|(with_reducible first|apply X1|apply X2|apply X8)|((with_reducible apply e_end);(simp;exact Red.rfl))|((with_reducible apply O1);rfl;(simp (disch:=omega);exact Red.rfl);exact Red.rfl;(focus (first|(simp;done)|omega|(simp;omega)))))
  (with_reducible apply e_call); (simp; exact Red.rfl); exact ck _ (by rw [rd_old _ hid]; exact hs) _ (by simp)
  rintro _ _ ⟨rfl, rfl⟩
  repeat (first|(with_reducible first|apply X1|apply X2|apply X5|apply X8)|((with_reducible apply e_end);(simp;exact Red.rfl))|((first|((with_reducible apply O1);rfl)|((with_reducible apply O2);rfl));(simp (disch:=omega);exact Red.rfl);exact Red.rfl;(focus (first|(simp;done)|omega|(simp;omega))))|((with_reducible apply W3);(simp (disch:=omega);exact Red.rfl)))
  have st : ∀ x y m : Int, (H ++ [AObj.cells [.slice id off l.length 9 ex] true, AObj.cells [.int .u8 s.c, .int .i64 s.s1, .int .i64 s.s2, .int .i64 s.r1, .int .i64 s.r2, .int .i64 s.d1, .int .i64 s.d2, .int .i64 s.w1, .int .i64 s.w2, .int .i64 s.t1, .int .i64 s.t2] true, AObj.cells [.int .u8 s.c, .int .i64 s.s1, .int .i64 s.s2, .int .i64 s.r1, .int .i64 s.r2, .int .i64 s.d1, .int .i64 s.d2, .int .i64 s.w1, .int .i64 s.w2, .int .i64 s.t1, .int .i64 s.t2] true, AObj.cells [.int .u8 s.c, .int .i64 (x), .int .i64 (y), .int .i64 s.r1, .int .i64 s.r2, .int .i64 s.d1, .int .i64 s.d2, .int .i64 s.w1, .int .i64 s.w2, .int .i64 s.t1, .int .i64 s.t2, .slice id off l.length 9 ex] true]).set (H.length + 3) (AObj.cells [.int .u8 s.c, .int .i64 (0), .int .i64 (m), .int .i64 s.r1, .int .i64 s.r2, .int .i64 s.d1, .int .i64 s.d2, .int .i64 s.w1, .int .i64 s.w2, .int .i64 s.t1, .int .i64 s.t2, .slice id off l.length 9 ex] true) = H ++ [AObj.cells [.slice id off l.length 9 ex] true, AObj.cells [.int .u8 s.c, .int .i64 s.s1, .int .i64 s.s2, .int .i64 s.r1, .int .i64 s.r2, .int .i64 s.d1, .int .i64 s.d2, .int .i64 s.w1, .int .i64 s.w2, .int .i64 s.t1, .int .i64 s.t2] true, AObj.cells [.int .u8 s.c, .int .i64 s.s1, .int .i64 s.s2, .int .i64 s.r1, .int .i64 s.r2, .int .i64 s.d1, .int .i64 s.d2, .int .i64 s.w1, .int .i64 s.w2, .int .i64 s.t1, .int .i64 s.t2] true, AObj.cells [.int .u8 s.c, .int .i64 (0), .int .i64 (m), .int .i64 s.r1, .int .i64 s.r2, .int .i64 s.d1, .int .i64 s.d2, .int .i64 s.w1, .int .i64 s.w2, .int .i64 s.t1, .int .i64 s.t2, .slice id off l.length 9 ex] true] := fun x y m => by rw [set_new]; rfl
  have cM := c_firstM (H ++ [AObj.cells [.slice id off l.length 9 ex] true, AObj.cells [.int .u8 s.c, .int .i64 s.s1, .int .i64 s.s2, .int .i64 s.r1, .int .i64 s.r2, .int .i64 s.d1, .int .i64 s.d2, .int .i64 s.w1, .int .i64 s.w2, .int .i64 s.t1, .int .i64 s.t2] true, AObj.cells [.int .u8 s.c, .int .i64 s.s1, .int .i64 s.s2, .int .i64 s.r1, .int .i64 s.r2, .int .i64 s.d1, .int .i64 s.d2, .int .i64 s.w1, .int .i64 s.w2, .int .i64 s.t1, .int .i64 s.t2] true, AObj.cells [.int .u8 s.c, .int .i64 (s.s1), .int .i64 (s.s2), .int .i64 s.r1, .int .i64 s.r2, .int .i64 s.d1, .int .i64 s.d2, .int .i64 s.w1, .int .i64 s.w2, .int .i64 s.t1, .int .i64 s.t2, .slice id off l.length 9 ex] true]) (fun m => H ++ [AObj.cells [.slice id off l.length 9 ex] true, AObj.cells [.int .u8 s.c, .int .i64 s.s1, .int .i64 s.s2, .int .i64 s.r1, .int .i64 s.r2, .int .i64 s.d1, .int .i64 s.d2, .int .i64 s.w1, .int .i64 s.w2, .int .i64 s.t1, .int .i64 s.t2] true, AObj.cells [.int .u8 s.c, .int .i64 s.s1, .int .i64 s.s2, .int .i64 s.r1, .int .i64 s.r2, .int .i64 s.d1, .int .i64 s.d2, .int .i64 s.w1, .int .i64 s.w2, .int .i64 s.t1, .int .i64 s.t2] true, AObj.cells [.int .u8 s.c, .int .i64 (0), .int .i64 (m), .int .i64 s.r1, .int .i64 s.r2, .int .i64 s.d1, .int .i64 s.d2, .int .i64 s.w1, .int .i64 s.w2, .int .i64 s.t1, .int .i64 s.t2, .slice id off l.length 9 ex] true]) F.slide_Start_1 [.ptr (H.length + 3) 0] 200001 (stP s l) (by omega) (by omega) (by simp)
    (fun m => by
      have := chg2_set (H ++ [AObj.cells [.slice id off l.length 9 ex] true, AObj.cells [.int .u8 s.c, .int .i64 s.s1, .int .i64 s.s2, .int .i64 s.r1, .int .i64 s.r2, .int .i64 s.d1, .int .i64 s.d2, .int .i64 s.w1, .int .i64 s.w2, .int .i64 s.t1, .int .i64 s.t2] true, AObj.cells [.int .u8 s.c, .int .i64 s.s1, .int .i64 s.s2, .int .i64 s.r1, .int .i64 s.r2, .int .i64 s.d1, .int .i64 s.d2, .int .i64 s.w1, .int .i64 s.w2, .int .i64 s.t1, .int .i64 s.t2] true, AObj.cells [.int .u8 s.c, .int .i64 (s.s1), .int .i64 (s.s2), .int .i64 s.r1, .int .i64 s.r2, .int .i64 s.d1, .int .i64 s.d2, .int .i64 s.w1, .int .i64 s.w2, .int .i64 s.t1, .int .i64 s.t2, .slice id off l.length 9 ex] true]) (H.length + 3) (AObj.cells [.int .u8 s.c, .int .i64 (0), .int .i64 (m), .int .i64 s.r1, .int .i64 s.r2, .int .i64 s.d1, .int .i64 s.d2, .int .i64 s.w1, .int .i64 s.w2, .int .i64 s.t1, .int .i64 s.t2, .slice id off l.length 9 ex] true) (by simp; omega)
      rw [st] at this; exact this)
    (fun m G h1 h2 hG => by
      rcases hG with rfl | ⟨m0, rfl⟩
      · have := c1 (H ++ [AObj.cells [.slice id off l.length 9 ex] true, AObj.cells [.int .u8 s.c, .int .i64 s.s1, .int .i64 s.s2, .int .i64 s.r1, .int .i64 s.r2, .int .i64 s.d1, .int .i64 s.d2, .int .i64 s.w1, .int .i64 s.w2, .int .i64 s.t1, .int .i64 s.t2] true, AObj.cells [.int .u8 s.c, .int .i64 s.s1, .int .i64 s.s2, .int .i64 s.r1, .int .i64 s.r2, .int .i64 s.d1, .int .i64 s.d2, .int .i64 s.w1, .int .i64 s.w2, .int .i64 s.t1, .int .i64 s.t2] true, AObj.cells [.int .u8 s.c, .int .i64 (s.s1), .int .i64 (s.s2), .int .i64 s.r1, .int .i64 s.r2, .int .i64 s.d1, .int .i64 s.d2, .int .i64 s.w1, .int .i64 s.w2, .int .i64 s.t1, .int .i64 s.t2, .slice id off l.length 9 ex] true]) (H.length + 3) s.s1 s.s2 m (by rw [rd_old _ hid]; exact hs) (by omega) (by rw [at_new]; rfl) (by omega)
        simp only [stS] at this
        rw [st] at this; exact this
      · have := c1 (H ++ [AObj.cells [.slice id off l.length 9 ex] true, AObj.cells [.int .u8 s.c, .int .i64 s.s1, .int .i64 s.s2, .int .i64 s.r1, .int .i64 s.r2, .int .i64 s.d1, .int .i64 s.d2, .int .i64 s.w1, .int .i64 s.w2, .int .i64 s.t1, .int .i64 s.t2] true, AObj.cells [.int .u8 s.c, .int .i64 s.s1, .int .i64 s.s2, .int .i64 s.r1, .int .i64 s.r2, .int .i64 s.d1, .int .i64 s.d2, .int .i64 s.w1, .int .i64 s.w2, .int .i64 s.t1, .int .i64 s.t2] true, AObj.cells [.int .u8 s.c, .int .i64 (0), .int .i64 (m0), .int .i64 s.r1, .int .i64 s.r2, .int .i64 s.d1, .int .i64 s.d2, .int .i64 s.w1, .int .i64 s.w2, .int .i64 s.t1, .int .i64 s.t2, .slice id off l.length 9 ex] true]) (H.length + 3) 0 m0 m (by rw [rd_old _ hid]; exact hs) (by omega) (by rw [at_new]; rfl) (by omega)
        simp only [stS] at this
        rw [st] at this; exact this)
    (fun x y h1 h2 h3 h4 => stP_mono hv hk h1 h2 (by omega) h4)
  rw [show (200001 : Int).toNat = 200001 from rfl] at cM
  (with_reducible apply e_call); (simp; exact Red.rfl); exact cM
  rintro _ hh ⟨rfl, hG⟩
  generalize hr : leastF (stP s l) 200001 = r
  have hr0 : (r : Int) ≤ 200001 := by
    have := (leastF_is (stP s l) 200001).1; omega
  have hE : ∃ a b : Int, hh = H ++ [AObj.cells [.slice id off l.length 9 ex] true, AObj.cells [.int .u8 s.c, .int .i64 s.s1, .int .i64 s.s2, .int .i64 s.r1, .int .i64 s.r2, .int .i64 s.d1, .int .i64 s.d2, .int .i64 s.w1, .int .i64 s.w2, .int .i64 s.t1, .int .i64 s.t2] true, AObj.cells [.int .u8 s.c, .int .i64 s.s1, .int .i64 s.s2, .int .i64 s.r1, .int .i64 s.r2, .int .i64 s.d1, .int .i64 s.d2, .int .i64 s.w1, .int .i64 s.w2, .int .i64 s.t1, .int .i64 s.t2] true, AObj.cells [.int .u8 s.c, .int .i64 (a), .int .i64 (b), .int .i64 s.r1, .int .i64 s.r2, .int .i64 s.d1, .int .i64 s.d2, .int .i64 s.w1, .int .i64 s.w2, .int .i64 s.t1, .int .i64 s.t2, .slice id off l.length 9 ex] true] := by
    rcases hG with h | ⟨m0, h⟩
    · exact ⟨_, _, h⟩
    · exact ⟨_, _, h⟩
  obtain ⟨a, b, hE⟩ := hE
  rw [hE]
  by_cases h0 : r = 0
  · have h0' : (r : Int) = 0 := by omega
    repeat (first|(with_reducible first|apply X1|apply X2|apply X3|apply X8|apply X9)|((with_reducible apply e_end);(simp;exact Red.rfl))|((with_reducible apply O1);rfl;(simp (disch:=omega) [h0, h0'];exact Red.rfl);exact Red.rfl;(focus (first|(simp;done)|omega|(simp;omega))))|((with_reducible apply Z9);(simp (disch:=omega) [h0, h0'];exact Red.rfl)))
    refine q_drop (.inr rfl) (by simp; exact Red.rfl) (by simp) ⟨rfl, .inl ⟨h0, rfl⟩⟩
  · have h0' : ¬ (r : Int) = 0 := by omega
    repeat (first|(with_reducible first|apply X1|apply X2|apply X3|apply X5|apply X8)|((with_reducible apply e_end);(simp;exact Red.rfl))|((with_reducible apply O1);rfl;(simp (disch:=omega) [h0, h0'];exact Red.rfl);exact Red.rfl;(focus (first|(simp;done)|omega|(simp;omega))))|((with_reducible apply W3);(simp (disch:=omega) [h0, h0'];exact Red.rfl)))
    refine q_drop (.inr rfl) (by simp; exact Red.rfl) (by simp) ⟨rfl, .inr ⟨h0, rfl⟩⟩
end Go.Proofs
/- Sleds for which the run is shut. -/
namespace Go.Proofs
open Go.Abs
attribute [local simp] AOp.den AOpd.ev lk cellsOf rd_new rd_new0 rd_zero rd_succ wr_new wr_new0 wr_zero wr_succ splice fillA binA scal sliceCells List.length_append argsT AV.sc scL AObj.sc resV getAll AR.get AOp.slots opdSlots opdsSlots partSlots eqAt at_new0 at_new set_new0 set_new wrap64
set_option linter.unusedSimpArgs false
set_option linter.unusedVariables false
def slAt (xs : List Sl) (j : Nat) : Sl := xs.getD j ⟨0, 0, 0, 0, 0, 0, 0, 0, 0, 0, 0⟩
theorem slAt_eq {xs : List Sl} {j : Nat} (h : j < xs.length) : slAt xs j = xs[j] := by
  simp [slAt, List.getD_eq_getElem?_getD, List.getElem?_eq_getElem h]
/-- The sleds that may be thrown, of the first ones. -/
def shL (xs : List Sl) (l : List Str) (i : Nat) : List Nat := (List.range i).filter fun j => decide (thN true (slAt xs j) l ≠ 0)
def shK (xs : List Sl) (l : List Str) (i p : Nat) : Int := ((shL xs l i).getD p 0 : Nat)
theorem shL_no {xs : List Sl} {l : List Str} {i : Nat} (h : thN true (slAt xs i) l = 0) : shL xs l (i + 1) = shL xs l i := by
  unfold shL; rw [List.range_succ, List.filter_append]; simp [h]
theorem shL_yes {xs : List Sl} {l : List Str} {i : Nat} (h : thN true (slAt xs i) l ≠ 0) : shL xs l (i + 1) = shL xs l i ++ [i] := by
  unfold shL; rw [List.range_succ, List.filter_append]; simp [h]
theorem shL_le (xs : List Sl) (l : List Str) (i : Nat) : (shL xs l i).length ≤ i := by
  have := List.length_filter_le (fun j => decide (thN true (slAt xs j) l ≠ 0)) (List.range i)
  simpa [shL] using this
theorem shK_snoc {xs : List Sl} {l : List Str} {i : Nat} (h : thN true (slAt xs i) l ≠ 0) : avR (r1 (shK xs l i)) (shL xs l i).length ++ [.int .i64 (i : Int)] = avR (r1 (shK xs l (i + 1))) ((shL xs l i).length + 1) := by
  rw [avR_succ]
  have e := shL_yes h
  congr 1
  · exact avR_congr fun j hj => by simp only [r1, shK, e, List.getD_eq_getElem?_getD]; rw [List.getElem?_append_left hj]
  · simp [r1, shK, e, List.getD_eq_getElem?_getD]
def lV1 (H : Heap) (m : Nat) : AV := if m = 0 then .nilslice else .slice (H.length + 1) 0 m 1 false

set_option maxHeartbeats 2000000 in
theorem c_Shut (H : Heap) (l : List Str) (id off : Nat) (ex : Bool) (xs : List Sl) (xid xoff : Nat) (xex : Bool) (hs : rd H id off (l.length * 9) = some (l.flatMap Str.av)) (hv : validL l)
    (hx : rd H xid xoff (xs.length * 11) = some (xs.flatMap Sl.av)) (h6 : xs.length ≤ 6) (hk : ∀ i (hi : i < xs.length), xs[i].ok) :
    ACalls Try.prog F.slide_Shut [.agg [.slice id off l.length 9 ex], .slice xid xoff xs.length 11 xex] H
      (fun v h' => v = .tuple [lV H (shL xs l xs.length).length, .int .i64 0] ∧ h' = H ++ lO (shL xs l xs.length).length (shK xs l xs.length)) := by
  have hid := rd_lt hs
  have hxd := rd_lt hx
  have h12 := hv.1
  have ck : ∀ H' (h1 : rd H' id off (l.length * 9) = some (l.flatMap Str.av)) (h2 : rd H' xid xoff (xs.length * 11) = some (xs.flatMap Sl.av)),
      ACalls Try.prog F.slide_checkAll [.agg [.slice id off l.length 9 ex], .slice xid xoff xs.length 11 xex] H' (fun v h' => v = .int .i64 0 ∧ h' = H') := fun H' h1 h2 => by
    refine (c_scheckAll H' l id off ex xs xid xoff xex h1 (by omega) h2 (by omega)).mono ?_
    rintro _ _ ⟨rfl, e, rfl, h⟩
    rcases h with ⟨rfl, _⟩ | ⟨_, h⟩ | ⟨_, _, h⟩ | ⟨_, _, _, h⟩
    · exact ⟨rfl, rfl⟩
    · exact absurd hv h
    · omega
    · exact absurd hk h
  have csf := fun H' s h hk' => c_safe H' s l id off ex h hv hk'
  simp only [Sl.av, List.cons_append, List.nil_append] at csf
  refine acalls_of ok_slide_Shut rfl fun hcl => ?_
  unfold ac_slide_Shut
  simp only [argsT, Nat.zero_add, Nat.reduceAdd]
  repeat (first|(with_reducible first|apply X1|apply X2|apply X8)|((with_reducible apply e_end);(simp;exact Red.rfl))|((with_reducible apply O1);rfl;(simp (disch:=omega);exact Red.rfl);exact Red.rfl;(focus (first|(simp;done)|omega|(simp;omega)))))
  (with_reducible apply e_call); (simp; exact Red.rfl); exact ck _ (by rw [rd_old _ hid]; exact hs) (by rw [rd_old _ hxd]; exact hx)
  rintro _ _ ⟨rfl, rfl⟩
  repeat (first|(with_reducible first|apply X1|apply X2|apply X5|apply X6|apply X8)|((with_reducible apply e_end);(simp;exact Red.rfl))|((with_reducible apply O1);rfl;(simp (disch:=omega);exact Red.rfl);exact Red.rfl;(focus (first|(simp;done)|omega|(simp;omega))))|((with_reducible apply W3);(simp (disch:=omega);exact Red.rfl)))
  refine e_loop (ι := { i : Nat // i ≤ xs.length })
    (fun i => [(2, .ptr H.length 0), (7, lV1 H (shL xs l i.1).length), (16, .slice xid xoff xs.length 11 xex), (17, .int .i64 xs.length), (18, .int .i64 i.1)])
    (fun i => H ++ (.cells [.slice id off l.length 9 ex] true :: lO (shL xs l i.1).length (shK xs l i.1))) (fun i => xs.length - i.1) ⟨0, by simp⟩ ?_ ?_
  · exact .inl rfl
  · rintro ⟨i, hi⟩
    dsimp only
    by_cases hlt : i < xs.length
    · have hlt2 : (i : Int) < xs.length := by omega
      have hrow := rd_row Sl.av_length hx hlt
      have hst := slAt_eq hlt
      rw [← hst] at hrow
      have hki := hk i hlt
      rw [← hst] at hki
      have hm := shL_le xs l i
      have hsn := fun h => shK_snoc (xs := xs) (l := l) (i := i) h
      have hy := fun h => shL_yes (xs := xs) (l := l) (i := i) h
      have hno := fun h => shL_no (xs := xs) (l := l) (i := i) h
      have hkno : ∀ h : thN true (slAt xs i) l = 0, shK xs l (i + 1) = shK xs l i := fun h => by funext p; unfold shK; rw [hno h]
      have pl := (plain_r1 (shK xs l i)).plain (shL xs l i).length
      have ll := (plain_r1 (shK xs l i)).length (shL xs l i).length
      generalize hsl : slAt xs i = s at *
      have csf' := fun H' h => csf H' s h hki
      obtain ⟨c, a1, a2, a3, a4, a5, a6, a7, a8, a9, a10⟩ := s
      simp only [Sl.av] at hrow
      dsimp only at csf'
      generalize hmm : (shL xs l i).length = m at *
      by_cases h0 : m = 0
      · subst h0
        simp only [lV1, lO, if_true]
        repeat (first|(with_reducible first|apply X1|apply X2|apply X5|apply X6|apply X8)|((with_reducible apply e_end);(simp;exact Red.rfl))|((first|((with_reducible apply O1);rfl)|((with_reducible apply O2);rfl));(simp (disch:=omega) [hlt, hlt2, rd_old _ hxd, hrow];exact Red.rfl);exact Red.rfl;(focus (first|(simp;done)|omega|(simp;omega))))|((with_reducible apply Z9);(simp (disch:=omega) [hlt, hlt2, rd_old _ hxd, hrow];exact Red.rfl)))
        (with_reducible apply e_call); (simp; exact Red.rfl); exact csf' _ (by rw [rd_old _ hid]; exact hs)
        rintro _ _ ⟨rfl, rfl⟩
        by_cases ht : thN true (⟨c, a1, a2, a3, a4, a5, a6, a7, a8, a9, a10⟩ : Sl) l = 0
        · repeat (first|(with_reducible first|apply X2|apply X5|apply X8|apply Y2)|((with_reducible apply e_end);(simp;exact Red.rfl))|((with_reducible apply O1);rfl;(simp (disch:=omega) [ht];exact Red.rfl);exact Red.rfl;(focus (first|(simp;done)|omega|(simp;omega))))|((with_reducible apply W3);(simp (disch:=omega) [ht];exact Red.rfl)))
          have hl1 : (shL xs l (i + 1)).length = 0 := by rw [hno ht]; exact hmm
          refine q_again ⟨i + 1, by omega⟩ (by dsimp only; omega) (.inr ?_)
          simp only [hl1, lV1, lO, if_true]
          exact le_take (G := [_]) (G2 := [_]) (by simp; omega) (by simp [Red, hxd]; omega)
        · repeat (first|(with_reducible first|apply X2|apply X8|apply Y2)|((with_reducible apply e_end);(simp;exact Red.rfl))|((with_reducible apply O1);rfl;(simp (disch:=omega) [ht];exact Red.rfl);exact Red.rfl;(focus (first|(simp;done)|omega|(simp;omega))))|((with_reducible apply Z9);(simp (disch:=omega) [ht];exact Red.rfl)))
          have hl1 : (shL xs l (i + 1)).length = 1 := by rw [hy ht]; simp [hmm]
          have hs1 := hsn ht
          simp only [avR_zero, List.nil_append, Nat.zero_add] at hs1
          have pl1 := (plain_r1 (shK xs l (i + 1))).plain 1
          rw [hs1]
          refine q_again ⟨i + 1, by omega⟩ (by dsimp only; omega) (.inr ?_)
          simp only [hl1, lV1, lO, if_neg (show ¬ 1 = 0 by omega)]
          exact le_to0 [0, 3] (by simp) (by simp [KeepAll, sh, AObj.ren, AV.ren, renL, hid, pl1.sc, pl1.ren]; omega) (by simp [sh, AV.ren, hid, hxd]; omega)
      · simp only [lV1, lO, if_neg h0]
        repeat (first|(with_reducible first|apply X1|apply X2|apply X5|apply X6|apply X8)|((with_reducible apply e_end);(simp;exact Red.rfl))|((first|((with_reducible apply O1);rfl)|((with_reducible apply O2);rfl));(simp (disch:=omega) [hlt, hlt2, rd_old _ hxd, hrow];exact Red.rfl);exact Red.rfl;(focus (first|(simp;done)|omega|(simp;omega))))|((with_reducible apply Z9);(simp (disch:=omega) [hlt, hlt2, rd_old _ hxd, hrow];exact Red.rfl)))
        (with_reducible apply e_call); (simp; exact Red.rfl); exact csf' _ (by rw [rd_old _ hid]; exact hs)
        rintro _ _ ⟨rfl, rfl⟩
        by_cases ht : thN true (⟨c, a1, a2, a3, a4, a5, a6, a7, a8, a9, a10⟩ : Sl) l = 0
        · repeat (first|(with_reducible first|apply X2|apply X5|apply X8|apply Y2)|((with_reducible apply e_end);(simp;exact Red.rfl))|((with_reducible apply O1);rfl;(simp (disch:=omega) [ht];exact Red.rfl);exact Red.rfl;(focus (first|(simp;done)|omega|(simp;omega))))|((with_reducible apply W3);(simp (disch:=omega) [ht];exact Red.rfl)))
          have hl1 : (shL xs l (i + 1)).length = m := by rw [hno ht]; exact hmm
          refine q_again ⟨i + 1, by omega⟩ (by dsimp only; omega) (.inr ?_)
          simp only [hl1, hkno ht, lV1, lO, if_neg h0]
          exact le_take (G := [_, _]) (G2 := [_]) (by simp [pl.sc] <;> omega) (by simp [Red, hxd] <;> omega)
        · have hm6 : m ≤ 6 := by omega
          have ll1 : (avR (r1 (shK xs l i)) m).length = m := by simpa using ll
          repeat (first|(with_reducible first|apply X2|apply X8|apply Y2)|((with_reducible apply e_end);(simp;exact Red.rfl))|((with_reducible apply O1);rfl;(simp (disch:=omega) [ht, ll1, pl.scal, take_all ll1];exact Red.rfl);exact Red.rfl;(focus (first|(simp;done)|omega|(simp;omega))))|((with_reducible apply Z9);(simp (disch:=omega) [ht, ll1, pl.scal, take_all ll1];exact Red.rfl)))
          have hl1 : (shL xs l (i + 1)).length = m + 1 := by rw [hy ht]; simp [hmm]
          rw [hsn ht]
          have pl1 := (plain_r1 (shK xs l (i + 1))).plain (m + 1)
          refine q_again ⟨i + 1, by omega⟩ (by dsimp only; omega) (.inr ?_)
          simp only [hl1, lV1, lO, if_neg (show ¬ m + 1 = 0 by omega)]
          exact le_to0 [0, 4] (by simp) (by simp [KeepAll, sh, AObj.ren, AV.ren, renL, hid, pl1.sc, pl1.ren]; omega) (by simp [sh, AV.ren, hid, hxd]; omega)
    · obtain rfl : i = xs.length := by omega
      generalize (shL xs l xs.length).length = m
      unfold lV1 lV lO
      by_cases h0 : m = 0
      · simp only [if_pos h0]
        repeat (first|(with_reducible first|apply X1|apply X2|apply X3|apply X4|apply X8|apply Y1|apply Y4|apply Y6)|((with_reducible apply e_end);(simp;exact Red.rfl))|((with_reducible apply O1);rfl;(simp (disch:=omega);exact Red.rfl);exact Red.rfl;(focus (first|(simp;done)|omega|(simp;omega))))|((with_reducible apply W3);(simp (disch:=omega);exact Red.rfl)))
        exact q_post (v' := .tuple [.nilslice, .int .i64 0]) (.inr rfl) (by simp; exact Red.rfl) (le_drop (by simp)) ⟨rfl, by simp⟩
      · simp only [if_neg h0]
        repeat (first|(with_reducible first|apply X1|apply X2|apply X3|apply X4|apply X8|apply Y1|apply Y4|apply Y6)|((with_reducible apply e_end);(simp;exact Red.rfl))|((with_reducible apply O1);rfl;(simp (disch:=omega);exact Red.rfl);exact Red.rfl;(focus (first|(simp;done)|omega|(simp;omega))))|((with_reducible apply W3);(simp (disch:=omega);exact Red.rfl)))
        have pl := (plain_r1 (shK xs l xs.length)).plain m
        exact q_post (v' := .tuple [.slice H.length 0 m 1 false, .int .i64 0]) (.inr rfl) (by simp; exact Red.rfl) (le_plain [1] _ (by simp) rfl (by simp; exact pl.o _) (by simp [sh, AV.ren, renL])) ⟨rfl, rfl⟩

end Go.Proofs
/- Walls, and what they are. -/
namespace Go.Proofs
open Go.Abs
attribute [local simp] AOp.den AOpd.ev lk cellsOf rd_new rd_new0 rd_zero rd_succ wr_new wr_new0 wr_zero wr_succ splice fillA binA scal sliceCells List.length_append argsT AV.sc scL AObj.sc resV getAll AR.get AOp.slots opdSlots opdsSlots partSlots eqAt at_new0 at_new set_new0 set_new wrap64
set_option linter.unusedSimpArgs false
set_option linter.unusedVariables false
/-- How high a wall has to be. -/
def wlF (s : Sl) (l : List Str) (j : Nat) : Int := if (strAt l j).side = 0 then 0 else if 0 < htF (wiF (hd true s l) j) (strAt l j).rLo s.t2 then htF (wiF (hd true s l) j) (strAt l j).rLo s.t2 else 0
def wlS (s : Sl) (l : List Str) (i j : Nat) : Int := if j < i then wlF s l j else 0

set_option maxHeartbeats 2000000 in
theorem c_Walls (H : Heap) (l : List Str) (id off : Nat) (ex : Bool) (s : Sl) (hs : rd H id off (l.length * 9) = some (l.flatMap Str.av)) (hv : validL l) (hk : s.ok) :
    ACalls Try.prog F.slide_Walls [.agg [.slice id off l.length 9 ex], .agg s.av] H
      (fun v h' => v = .tuple [.slice H.length 0 l.length 1 true, .int .i64 0] ∧ h' = H ++ [.cells (avR (r1 (wlF s l)) l.length) true]) := by
  have hid := rd_lt hs
  have h12 := hv.1
  have ck := fun H' h1 xid h2 => c_checkOne H' l id off ex s xid 0 true h1 hv hk h2
  have cf := fun H' h => c_fastest H' s id off l.length ex h
  have cw := fun H' h => c_swithin true H' s l id off ex h hv hk
  have ch := fun i hi hc H' h x hx => c_height true H' s l id off ex h hk i hi x hx (curve_rad hv hi hc)
  have wl := (plain_r1 (wiF (hd true s l))).length l.length
  have plW := (plain_r1 (wiF (hd true s l))).plain l.length
  simp only [trv, Sl.av, List.cons_append, List.nil_append] at ck cf cw ch ⊢
  refine acalls_of ok_slide_Walls rfl fun hcl => ?_
  unfold ac_slide_Walls
  simp only [argsT, Nat.zero_add, Nat.reduceAdd]
  repeat (first|(with_reducible first|apply X1|apply X2|apply X8)|((with_reducible apply e_end);(simp;exact Red.rfl))|((with_reducible apply O1);rfl;(simp (disch:=omega);exact Red.rfl);exact Red.rfl;(focus (first|(simp;done)|omega|(simp;omega)))))
  (with_reducible apply e_call); (simp; exact Red.rfl); exact ck _ (by rw [rd_old _ hid]; exact hs) _ (by simp)
  rintro _ _ ⟨rfl, rfl⟩
  repeat (first|(with_reducible first|apply X1|apply X2|apply X5|apply X8)|((with_reducible apply e_end);(simp;exact Red.rfl))|((with_reducible apply O1);rfl;(simp (disch:=omega);exact Red.rfl);exact Red.rfl;(focus (first|(simp;done)|omega|(simp;omega))))|((with_reducible apply W3);(simp (disch:=omega);exact Red.rfl)))
  (with_reducible apply e_call); (simp; exact Red.rfl); exact cf _ (by simp; omega)
  rintro _ _ ⟨rfl, rfl⟩
  repeat (first|(with_reducible first|apply X1|apply X2|apply X8)|((with_reducible apply e_end);(simp;exact Red.rfl))|((first|((with_reducible apply O1);rfl)|((with_reducible apply O2);rfl));(simp (disch:=omega);exact Red.rfl);exact Red.rfl;(focus (first|(simp;done)|omega|(simp;omega)))))
  (with_reducible apply e_call); (simp; exact Red.rfl); exact cw _ (by simp only [List.append_assoc, rd_old _ hid]; exact hs)
  rintro _ _ ⟨rfl, rfl⟩
  repeat (first|(with_reducible first|apply X6|apply X8)|((with_reducible apply e_end);(simp;exact Red.rfl))|((with_reducible apply O1);rfl;(simp (disch:=omega);exact Red.rfl);exact Red.rfl;(focus (first|(simp;done)|omega|(simp;omega)))))
  have e0 : List.replicate l.length (AV.int .i64 0) = avR (r1 (wlS s l 0)) l.length := by
    rw [r1_rep']; exact avR_congr fun j _ => by simp [r1, wlS]
  rw [e0]
  refine e_loop (ι := { i : Nat // i ≤ l.length })
    (fun i => [(2, .ptr H.length 0), (7, .ptr (H.length + 3) 0), (8, .slice (H.length + 4) 0 l.length 1 true), (28, .slice (H.length + 5) 0 l.length 1 true), (29, .int .i64 l.length), (30, .int .i64 i.1)])
    (fun i => H ++ [.cells [.slice id off l.length 9 ex] true, .cells [.int .u8 s.c, .int .i64 s.s1, .int .i64 s.s2, .int .i64 s.r1, .int .i64 s.r2, .int .i64 s.d1, .int .i64 s.d2, .int .i64 s.w1, .int .i64 s.w2, .int .i64 s.t1, .int .i64 s.t2] true, .cells [.int .u8 s.c, .int .i64 s.s1, .int .i64 s.s2, .int .i64 s.r1, .int .i64 s.r2, .int .i64 s.d1, .int .i64 s.d2, .int .i64 s.w1, .int .i64 s.w2, .int .i64 s.t1, .int .i64 s.t2] true, .cells [.int .u8 s.c, .int .i64 s.s1, .int .i64 s.s2, .int .i64 s.r1, .int .i64 s.r2, .int .i64 s.d1, .int .i64 s.d2, .int .i64 s.w1, .int .i64 s.w2, .int .i64 s.t1, .int .i64 s.t2, .slice id off l.length 9 ex, .fn (.func (moF true)) [] [], .fn (.func (leF true)) [] []] true, .cells (avR (r1 (wlS s l i.1)) l.length) true, .cells (avR (r1 (wiF (hd true s l))) l.length) true]) (fun i => l.length - i.1) ⟨0, by simp⟩ ?_ ?_
  · exact .inl rfl
  · rintro ⟨i, hi⟩
    dsimp only
    by_cases hlt : i < l.length
    · have hlt2 : (i : Int) < l.length := by omega
      have le1 : i + 1 ≤ l.length := hlt
      have q1 : ((avR (r1 (wiF (hd true s l))) l.length).drop i).take 1 = [.int .i64 (wiF (hd true s l) i)] := by
        simpa [r1] using (plain_r1 (wiF (hd true s l))).part (n := l.length) (i := i) (c := 0) (m := 1) hlt (by omega)
      have ll := (plain_r1 (wlS s l i)).length l.length
      have hx := rd_row Str.av_length hs hlt
      have hst := strAt_eq hlt
      rw [← hst] at hx
      have cb := wi_bd hv hk true hlt
      have hsr := str_rad hv hlt
      have cst := fun H' b hb => c_straight H' (strAt l i) (b := b) hb
      have ch := ch i hlt
      have hwl : wlF s l i = if (strAt l i).side = 0 then 0 else if 0 < htF (wiF (hd true s l) i) (strAt l i).rLo s.t2 then htF (wiF (hd true s l) i) (strAt l i).rLo s.t2 else 0 := rfl
      have hp0 : (strAt l i).side = 0 → avR (r1 (wlS s l i)) l.length = avR (r1 (wlS s l (i + 1))) l.length := fun h => avR_congr fun j _ => by
        have e : wlF s l i = 0 := by rw [hwl, if_pos h]
        simp only [r1, wlS]
        by_cases hj : j = i
        · subst hj; simp [e]
        · have e2 : (j < i + 1) ↔ (j < i) := by omega
          simp only [e2]
      have hp1 : splice (avR (r1 (wlS s l i)) l.length) i [.int .i64 (wlF s l i)] = avR (r1 (wlS s l (i + 1))) l.length := by
        have := r1_put (f := wlS s l i) (f' := wlS s l (i + 1)) (n := l.length) hlt (fun j _ hj => by
          have e2 : (j < i + 1) ↔ (j < i) := by omega
          simp only [wlS, e2])
        simpa [wlS] using this
      generalize strAt l i = st at hx hsr cst ch hwl hp0
      obtain ⟨a1, a2, a3, a4, a5, a6, a7, a8, a9⟩ := st
      simp only [Str.av] at hx cst
      dsimp only at hsr cst ch hwl hp0
      rw [show dn true a6 a7 = a6 from rfl, show up true s.t1 s.t2 = s.t2 from rfl] at ch
      repeat (first|(with_reducible first|apply X1|apply X2|apply X5|apply X6|apply X8)|((with_reducible apply e_end);(simp;exact Red.rfl))|((with_reducible apply O1);rfl;(simp (disch:=omega) [hlt, hlt2, le1, q1, wl, rd_old _ hid, hx];exact Red.rfl);exact Red.rfl;(focus (first|(simp;done)|omega|(simp;omega))))|((with_reducible apply Z9);(simp (disch:=omega) [hlt, hlt2, le1, q1, wl, rd_old _ hid, hx];exact Red.rfl)))
      by_cases hside : a8 = 0
      · (with_reducible apply e_call); (simp; exact Red.rfl); exact cst _ true (by simp [hsr, hside])
        rintro _ _ ⟨rfl, rfl⟩
        repeat (first|(with_reducible first|apply X2|apply X5|apply X8|apply Y2)|((with_reducible apply e_end);(simp;exact Red.rfl))|((with_reducible apply O1);rfl;(simp (disch:=omega);exact Red.rfl);exact Red.rfl;(focus (first|(simp;done)|omega|(simp;omega))))|((with_reducible apply W3);(simp (disch:=omega);exact Red.rfl)))
        rw [hp0 hside]
        exact q_again ⟨i + 1, by omega⟩ (by dsimp only; omega) (.inl rfl)
      · (with_reducible apply e_call); (simp; exact Red.rfl); exact cst _ false (by simp [hsr, hside])
        rintro _ _ ⟨rfl, rfl⟩
        repeat (first|(with_reducible first|apply X2|apply X8)|((with_reducible apply e_end);(simp;exact Red.rfl))|((with_reducible apply O1);rfl;(simp (disch:=omega);exact Red.rfl);exact Red.rfl;(focus (first|(simp;done)|omega|(simp;omega))))|((with_reducible apply Z9);(simp (disch:=omega);exact Red.rfl)))
        rw [if_neg hside] at hwl
        (with_reducible apply e_call); (simp; exact Red.rfl); exact ch hside _ (by rw [rd_old _ hid]; exact hs) _ cb
        rintro _ _ ⟨rfl, rfl⟩
        generalize htF (wiF (hd true s l) i) a6 s.t2 = W at *
        by_cases hw : 0 < W
        · rw [if_pos hw] at hwl
          rw [hwl] at hp1
          repeat (first|(with_reducible first|apply X2|apply X8|apply Y2)|((with_reducible apply e_end);(simp;exact Red.rfl))|((first|((with_reducible apply O1);rfl)|((with_reducible apply O2);rfl));(simp (disch:=omega) [hw, le1, ll, -splice, hp1];exact Red.rfl);exact Red.rfl;(focus (first|(simp;done)|omega|(simp;omega)))))
          exact q_again ⟨i + 1, by omega⟩ (by dsimp only; omega) (.inl rfl)
        · rw [if_neg hw] at hwl
          rw [hwl] at hp1
          repeat (first|(with_reducible first|apply X2|apply X8|apply Y2)|((with_reducible apply e_end);(simp;exact Red.rfl))|((first|((with_reducible apply O1);rfl)|((with_reducible apply O2);rfl));(simp (disch:=omega) [hw, le1, ll, -splice, hp1];exact Red.rfl);exact Red.rfl;(focus (first|(simp;done)|omega|(simp;omega)))))
          exact q_again ⟨i + 1, by omega⟩ (by dsimp only; omega) (.inl rfl)
    · obtain rfl : i = l.length := by omega
      repeat (first|(with_reducible first|apply X1|apply X2|apply X3|apply X4|apply X8|apply Y1|apply Y4|apply Y6)|((with_reducible apply e_end);(simp;exact Red.rfl))|((with_reducible apply O1);rfl;(simp (disch:=omega);exact Red.rfl);exact Red.rfl;(focus (first|(simp;done)|omega|(simp;omega))))|((with_reducible apply W3);(simp (disch:=omega);exact Red.rfl)))
      have e1 : avR (r1 (wlS s l l.length)) l.length = avR (r1 (wlF s l)) l.length := avR_congr fun j hj => by simp only [r1, wlS]; rw [if_pos (by omega)]
      rw [e1]
      have pl := (plain_r1 (wlF s l)).plain l.length
      exact q_post (v' := .tuple [.slice H.length 0 l.length 1 true, .int .i64 0]) (.inr rfl) (by simp; exact Red.rfl) (le_plain [4] _ (by simp) rfl (by simp; exact pl.o _) (by simp [sh, AV.ren, renL])) ⟨rfl, rfl⟩
end Go.Proofs
