/- Several texts as one. -/
import Derived.Test.YtdjneegacogklaaTA
import Derived.Test.YtdjneegacogklaaSC
import Derived.Test.YtdjneegacogklaaSD
/- Curves that throw a sled. -/
namespace Go.Proofs
open Go.Abs
attribute [local simp] AOp.den AOpd.ev lk cellsOf rd_new rd_new0 rd_zero rd_succ wr_new wr_new0 wr_zero wr_succ splice fillA binA scal sliceCells List.length_append argsT AV.sc scL AObj.sc resV getAll AR.get AOp.slots opdSlots opdsSlots partSlots eqAt at_new0 at_new set_new0 set_new wrap64
set_option linter.unusedSimpArgs false
set_option linter.unusedVariables false
def mpV (w : Nat → Int) (xs : List Nat) : List (AV × AV) := xs.map fun (j : Nat) => (.int .i64 (j : Int), .int .i64 (w j))
def moX (w : Nat → Int) (xs : List Nat) (c : Nat) : AObj := .other (.map (mpV w xs) xs c)
theorem keyEq_nat (a b : Nat) : keyEq (.one .int) (.int .i64 (a : Int)) (.int .i64 (b : Int)) = some (decide (a = b)) := by
  have e : ((a : Int) = b) = (a = b) := propext Int.ofNat_inj
  simp only [keyEq, eqCell, if_true, e]
theorem findV_not (w : Nat → Int) (k : Nat) : ∀ xs : List Nat, ¬ k ∈ xs → findA (.one .int) (.int .i64 (k : Int)) (mpV w xs) = some none
  | [], _ => rfl
  | a :: r, h => by
    have h1 : ¬ k = a := fun e => h (by simp [e])
    have h2 := findV_not w k r (fun e => h (List.mem_cons_of_mem _ e))
    have e : mpV w (a :: r) = (.int .i64 (a : Int), .int .i64 (w a)) :: mpV w r := rfl
    rw [e]
    simp only [findA, keyEq_nat, h1, decide_false, h2]
theorem findV_mem (w : Nat → Int) (k : Nat) : ∀ xs : List Nat, k ∈ xs → ∃ p : Nat, xs[p]? = some k ∧ findA (.one .int) (.int .i64 (k : Int)) (mpV w xs) = some (some p)
  | [], h => by cases h
  | a :: r, h => by
    have e : mpV w (a :: r) = (.int .i64 (a : Int), .int .i64 (w a)) :: mpV w r := rfl
    by_cases h1 : k = a
    · subst h1
      exact ⟨0, rfl, by rw [e]; simp only [findA, keyEq_nat, decide_true]⟩
    · have h2 : k ∈ r := by
        rcases List.mem_cons.1 h with h | h
        · exact absurd h h1
        · exact h
      obtain ⟨p, q1, q2⟩ := findV_mem w k r h2
      exact ⟨p + 1, by simpa using q1, by rw [e]; simp only [findA, keyEq_nat, h1, decide_false, q2]⟩
theorem mpV_get (w : Nat → Int) {xs : List Nat} {p k : Nat} (h : xs[p]? = some k) : (mpV w xs)[p]? = some (.int .i64 (k : Int), .int .i64 (w k)) := by
  simp [mpV, h]
theorem erase_map {α β : Type} (f : α → β) : ∀ (xs : List α) (p : Nat), (xs.map f).eraseIdx p = (xs.eraseIdx p).map f
  | [], _ => rfl
  | _ :: _, 0 => rfl
  | a :: xs, p + 1 => by simp only [List.map_cons, List.eraseIdx_cons_succ, erase_map f xs p]
theorem erase_nd {k : Nat} : ∀ {xs : List Nat} {p : Nat}, xs.Nodup → xs[p]? = some k → xs.eraseIdx p = xs.filter fun j => decide (j ≠ k)
  | [], p, _, h => by simp at h
  | a :: r, 0, hd, h => by
    simp at h; subst h
    have h1 := List.nodup_cons.1 hd
    rw [List.eraseIdx_cons_zero, List.filter_cons_of_neg (by simp)]
    exact (List.filter_eq_self.2 fun x hx => by
      have : x ≠ a := by rintro rfl; exact h1.1 hx
      simpa using this).symm
  | a :: r, p + 1, hd, h => by
    have h1 := List.nodup_cons.1 hd
    have hk : k ∈ r := List.mem_of_getElem? (by simpa using h)
    have hne : a ≠ k := by rintro rfl; exact h1.1 hk
    rw [List.eraseIdx_cons_succ, List.filter_cons_of_pos (by simpa using hne), erase_nd h1.2 (by simpa using h)]
theorem den_getV {m i : AOpd} {ev : AOpd → AV} {h : Heap} {id k c : Nat} {w : Nat → Int} {xs : List Nat} (hm : ev m = .map id) (hi : ev i = .int .i64 (k : Int)) (hh : h[id]? = some (moX w xs c)) (hk : k ∈ xs) :
    (AOp.mapGet false (.int .i64 0) (.one .int) m i).den ev h = .ok True (.int .i64 (w k)) h := by
  obtain ⟨p, q1, q2⟩ := findV_mem w k xs hk
  simp only [AOp.den, AOp.fx, hm, hi, keyEq_nat, mapAt, hh, moX, Option.isSome_some, if_true, q2, mpV_get w q1]
  simp
theorem den_putV {m i x : AOpd} {ev : AOpd → AV} {h : Heap} {id k c : Nat} {w : Nat → Int} {xs : List Nat} (hm : ev m = .map id) (hi : ev i = .int .i64 (k : Int)) (hx : ev x = .int .i64 (w k)) (hh : h[id]? = some (moX w xs c)) (hk : ¬ k ∈ xs) (hc : c = k) :
    (AOp.mapPut (.one .int) m i x).den ev h = .ok True (.tuple []) (h.set id (moX w (xs ++ [k]) (c + 1))) := by
  simp only [AOp.den, AOp.fx, hm, hi, hx, keyEq_nat, hh, moX, Option.isSome_some, if_true, findV_not w k xs hk]
  simp [mpV, hc]
theorem den_delV {m i : AOpd} {ev : AOpd → AV} {h : Heap} {id k c : Nat} {w : Nat → Int} {xs : List Nat} (hm : ev m = .map id) (hi : ev i = .int .i64 (k : Int)) (hh : h[id]? = some (moX w xs c)) (hk : k ∈ xs) (hd : xs.Nodup) :
    (AOp.mapDel (.one .int) m i).den ev h = .ok True (.tuple []) (h.set id (moX w (xs.filter fun j => decide (j ≠ k)) c)) := by
  obtain ⟨p, q1, q2⟩ := findV_mem w k xs hk
  have e : (mpV w xs).eraseIdx p = mpV w (xs.filter fun j => decide (j ≠ k)) := by
    rw [← erase_nd hd q1]; simp only [mpV, erase_map]
  simp only [AOp.den, AOp.fx, hm, hi, keyEq_nat, hh, moX, Option.isSome_some, if_true, q2, e, erase_nd hd q1]
/-- Whether a curve throws a sled. -/
def thrB (t : Bool) (s : Sl) (l : List Str) (i : Nat) : Bool := decide ((strAt l i).side ≠ 0 ∧ (strAt l i).wall < htF (wiF (hd t s l) i) (dn t (strAt l i).rLo (strAt l i).rHi) (up t s.t1 s.t2))
/-- All curves that do. -/
def thL (t : Bool) (s : Sl) (l : List Str) : List Nat := (List.range l.length).filter (thrB t s l)
/-- What is left of all stretches when some were looked at. -/
def leL (th : Nat → Bool) (n i : Nat) : List Nat := (List.range n).filter fun j => decide (i ≤ j) || th j
theorem le_zero (th : Nat → Bool) (n : Nat) : leL th n 0 = List.range n := List.filter_eq_self.2 fun _ _ => by simp
theorem le_end (th : Nat → Bool) (n : Nat) : leL th n n = (List.range n).filter th := List.filter_congr fun j hj => by
  have := List.mem_range.1 hj
  simp [show ¬ n ≤ j by omega]
theorem le_keepT {th : Nat → Bool} {n i : Nat} (h : th i = true) : leL th n (i + 1) = leL th n i := List.filter_congr fun j _ => by
  by_cases hj : j = i
  · subst hj; simp [h]
  · have : (i + 1 ≤ j) = (i ≤ j) := propext (by omega)
    simp [this]
theorem le_dropF {th : Nat → Bool} {n i : Nat} (h : th i = false) : (leL th n i).filter (fun j => decide (j ≠ i)) = leL th n (i + 1) := by
  unfold leL
  rw [List.filter_filter]
  refine List.filter_congr fun j _ => ?_
  by_cases hj : j = i
  · subst hj; simp [h]
  · have : (i + 1 ≤ j) = (i ≤ j) := propext (by omega)
    simp [this, hj]
theorem le_mem {th : Nat → Bool} {n i : Nat} (h : i < n) : i ∈ leL th n i := List.mem_filter.2 ⟨List.mem_range.2 h, by simp⟩
theorem le_nd (th : Nat → Bool) (n i : Nat) : (leL th n i).Nodup := List.Pairwise.filter _ List.nodup_range

theorem c_throws (t : Bool) (H : Heap) (s : Sl) (l : List Str) (id off : Nat) (ex : Bool) (hs : rd H id off (l.length * 9) = some (l.flatMap Str.av)) (hv : validL l) (hk : s.ok) (i : Nat) (hi : i < l.length) (x : Int) (hx : 0 ≤ x ∧ x ≤ 260000) (hc : (strAt l i).side ≠ 0) :
    ACalls Try.prog F.slide_truth_throws [.agg (trv t s (.slice id off l.length 9 ex)), .int .i64 i, .int .i64 x] H (fun v h' => v = .bool (decide ((strAt l i).wall < htF x (dn t (strAt l i).rLo (strAt l i).rHi) (up t s.t1 s.t2))) ∧ h' = H) := by
  have hid := rd_lt hs
  have chh := fun H' h => c_height t H' s l id off ex h hk i hi x hx (curve_rad hv hi hc)
  have hrow := rd_row Str.av_length hs hi
  have hst := strAt_eq hi
  have hi2 : (i : Int) < l.length := by omega
  generalize htF x (dn t (strAt l i).rLo (strAt l i).rHi) (up t s.t1 s.t2) = ht at chh ⊢
  rw [hst]
  generalize hsi : l[i] = st at hrow
  obtain ⟨b1, b2, b3, b4, b5, b6, b7, b8, b9⟩ := st
  simp only [Str.av] at hrow
  have hx2 : rd H id (off + i * 9 + 8) 1 = some [.int .i64 b9] := by simpa using rd_sub hrow (show 8 + 1 ≤ 9 by omega)
  simp only [trv, Sl.av, List.cons_append, List.nil_append] at chh ⊢
  refine acalls_of ok_slide_truth_throws rfl fun hcl => ?_
  unfold ac_slide_truth_throws
  simp only [argsT, Nat.zero_add, Nat.reduceAdd]
  repeat (first|(with_reducible first|apply X1|apply X2|apply X8|apply Y9)|((with_reducible apply e_end);(simp;exact Red.rfl))|((first|((with_reducible apply O1);rfl)|((with_reducible apply P1);rfl)|((with_reducible apply P2);rfl));(simp (disch:=omega);exact Red.rfl);exact Red.rfl;(focus (first|(simp;done)|omega|(simp;omega)))))
  (with_reducible apply d_call); (simp; exact Red.rfl); exact chh _ (by rw [rd_old _ hid]; exact hs); (focus (first | (simp; done) | (simp; omega)))
  repeat (first|(with_reducible first|apply X3|apply X8)|((with_reducible apply d_end);(simp;exact Red.rfl))|((with_reducible apply P1);rfl;(simp (disch:=omega) [rd_old _ hid, hx2, hi, hi2];exact Red.rfl);exact Red.rfl;(focus (first|(simp;done)|omega|(simp;omega))))|((with_reducible apply P6);rfl;(simp (disch:=omega) [rd_old _ hid, hx2, hi, hi2];exact Red.rfl);exact Red.rfl;(focus (first|(simp [pr];done)|(simp [pr];omega)))))
  refine q_drop (.inr rfl) (by simp; exact Red.rfl) (by simp) ⟨rfl, rfl⟩
end Go.Proofs
/- Who may be thrown. -/
namespace Go.Proofs
open Go.Abs
attribute [local simp] AOp.den AOpd.ev lk cellsOf rd_new rd_new0 rd_zero rd_succ wr_new wr_new0 wr_zero wr_succ splice fillA binA scal sliceCells List.length_append argsT AV.sc scL AObj.sc resV getAll AR.get AOp.slots opdSlots opdsSlots partSlots eqAt at_new0 at_new set_new0 set_new wrap64
set_option linter.unusedSimpArgs false
set_option linter.unusedVariables false
def thK (t : Bool) (s : Sl) (l : List Str) (p : Nat) : Int := ((thL t s l).getD p 0 : Nat)
set_option maxHeartbeats 2000000 in
theorem c_throwing (t : Bool) (H : Heap) (s : Sl) (l : List Str) (id off : Nat) (ex : Bool) (hs : rd H id off (l.length * 9) = some (l.flatMap Str.av)) (hv : validL l) (hk : s.ok) :
    ACalls Try.prog F.slide_truth_throwing [.agg (trv t s (.slice id off l.length 9 ex))] H (fun v h' => v = lV H (thL t s l).length ∧ h' = H ++ lO (thL t s l).length (thK t s l)) := by
  have hid := rd_lt hs
  have h12 := hv.1
  have cw := fun H' h => c_swithin t H' s l id off ex h hv hk
  have cth := fun i hi hc H' h x hx => c_throws t H' s l id off ex h hv hk i hi x hx hc
  have wl := (plain_r1 (wiF (hd t s l))).length l.length
  have plW := (plain_r1 (wiF (hd t s l))).plain l.length
  simp only [trv, Sl.av, List.cons_append, List.nil_append] at cw cth ⊢
  refine acalls_of ok_slide_truth_throwing rfl fun hcl => ?_
  unfold ac_slide_truth_throwing
  simp only [argsT, Nat.zero_add, Nat.reduceAdd]
  repeat (first|(with_reducible first|apply X1|apply X2|apply X8)|((with_reducible apply e_end);(simp;exact Red.rfl))|((with_reducible apply O1);rfl;(simp (disch:=omega);exact Red.rfl);exact Red.rfl;(focus (first|(simp;done)|omega|(simp;omega)))))
  (with_reducible apply e_call); (simp; exact Red.rfl); exact cw _ (by rw [rd_old _ hid]; exact hs)
  rintro _ _ ⟨rfl, rfl⟩
  repeat (first|(with_reducible first|apply X6|apply X8)|((with_reducible apply e_end);(simp;exact Red.rfl))|((with_reducible apply O1);rfl;(simp (disch:=omega);exact Red.rfl);exact Red.rfl;(focus (first|(simp;done)|omega|(simp;omega)))))
  refine e_loop (ι := { i : Nat // i ≤ l.length })
    (fun i => [(1, .ptr H.length 0), (3, .map (H.length + 1)), (9, .slice (H.length + 2) 0 l.length 1 true), (10, .int .i64 l.length), (11, .int .i64 i.1)])
    (fun i => H ++ [.cells [.int .u8 s.c, .int .i64 s.s1, .int .i64 s.s2, .int .i64 s.r1, .int .i64 s.r2, .int .i64 s.d1, .int .i64 s.d2, .int .i64 s.w1, .int .i64 s.w2, .int .i64 s.t1, .int .i64 s.t2, .slice id off l.length 9 ex, .fn (.func (moF t)) [] [], .fn (.func (leF t)) [] []] true, moX (wiF (hd t s l)) (List.range i.1) i.1, .cells (avR (r1 (wiF (hd t s l))) l.length) true]) (fun i => l.length - i.1) ⟨0, by simp⟩ ?_ ?_
  · exact .inl rfl
  · rintro ⟨i, hi⟩
    dsimp only
    by_cases hlt : i < l.length
    · have hlt2 : (i : Int) < l.length := by omega
      have le1 : i + 1 ≤ l.length := hlt
      have q1 : ((avR (r1 (wiF (hd t s l))) l.length).drop i).take 1 = [.int .i64 (wiF (hd t s l) i)] := by
        simpa [r1] using (plain_r1 (wiF (hd t s l))).part (n := l.length) (i := i) (c := 0) (m := 1) hlt (by omega)
      repeat (first|(with_reducible first|apply X1|apply X2|apply X5|apply X6|apply X8)|((with_reducible apply e_end);(simp;exact Red.rfl))|((with_reducible apply O1);rfl;(simp (disch:=omega) [hlt, hlt2, le1, q1, wl];exact Red.rfl);exact Red.rfl;(focus (first|(simp;done)|omega|(simp;omega))))|((with_reducible apply Z9);(simp (disch:=omega) [hlt, hlt2, le1, q1, wl];exact Red.rfl)))
      refine e_do (op := .mapPut _ _ _ _) rfl (den_putV (k := i) (w := wiF (hd t s l)) (xs := List.range i) (c := i) rfl rfl rfl (by rw [at_new]; rfl) (by simp) rfl) Red.rfl trivial ?_
      rw [set_new, ← List.range_succ]
      repeat (first|(with_reducible first|apply X2|apply X8|apply Y2)|((with_reducible apply e_end);(simp;exact Red.rfl))|((with_reducible apply O1);rfl;(simp (disch:=omega);exact Red.rfl);exact Red.rfl;(focus (first|(simp;done)|omega|(simp;omega)))))
      exact q_again ⟨i + 1, by omega⟩ (by dsimp only; omega) (.inl rfl)
    · obtain rfl : i = l.length := by omega
      clear hlt hi
      repeat (first|(with_reducible first|apply X1|apply X2|apply X4|apply X6|apply X8|apply Y1|apply Y4|apply Y6)|((with_reducible apply e_end);(simp;exact Red.rfl))|((with_reducible apply O1);rfl;(simp (disch:=omega);exact Red.rfl);exact Red.rfl;(focus (first|(simp;done)|omega|(simp;omega))))|((with_reducible apply W3);(simp (disch:=omega);exact Red.rfl)))
      rw [← le_zero (thrB t s l)]
      refine e_loop (ι := { i : Nat // i ≤ l.length })
        (fun i => [(1, .ptr H.length 0), (3, .map (H.length + 1)), (23, .int .i64 l.length), (24, .int .i64 i.1)])
        (fun i => H ++ [.cells [.int .u8 s.c, .int .i64 s.s1, .int .i64 s.s2, .int .i64 s.r1, .int .i64 s.r2, .int .i64 s.d1, .int .i64 s.d2, .int .i64 s.w1, .int .i64 s.w2, .int .i64 s.t1, .int .i64 s.t2, .slice id off l.length 9 ex, .fn (.func (moF t)) [] [], .fn (.func (leF t)) [] []] true, moX (wiF (hd t s l)) (leL (thrB t s l) l.length i.1) l.length, .cells (avR (r1 (wiF (hd t s l))) l.length) true]) (fun i => l.length - i.1) ⟨0, by simp⟩ ?_ ?_
      · exact .inl rfl
      · rintro ⟨i, hi⟩
        dsimp only
        by_cases hlt : i < l.length
        · have hlt2 : (i : Int) < l.length := by omega
          have hx := rd_row Str.av_length hs hlt
          have hst := strAt_eq hlt
          rw [← hst] at hx
          have cb := wi_bd hv hk t hlt
          have hsr := str_rad hv hlt
          have cst := fun H' b hb => c_straight H' (strAt l i) (b := b) hb
          have cth := cth i hlt
          have hthr : thrB t s l i = decide ((strAt l i).side ≠ 0 ∧ (strAt l i).wall < htF (wiF (hd t s l) i) (dn t (strAt l i).rLo (strAt l i).rHi) (up t s.t1 s.t2)) := rfl
          generalize strAt l i = st at hx hsr cst cth hthr
          obtain ⟨a1, a2, a3, a4, a5, a6, a7, a8, a9⟩ := st
          simp only [Str.av] at hx cst
          dsimp only at hsr cst cth hthr
          repeat (first|(with_reducible first|apply X1|apply X2|apply X5|apply X6|apply X8)|((with_reducible apply e_end);(simp;exact Red.rfl))|((with_reducible apply O1);rfl;(simp (disch:=omega) [hlt, hlt2, rd_old _ hid, hx];exact Red.rfl);exact Red.rfl;(focus (first|(simp;done)|omega|(simp;omega))))|((with_reducible apply Z9);(simp (disch:=omega) [hlt, hlt2, rd_old _ hid, hx];exact Red.rfl)))
          by_cases hside : a8 = 0
          · (with_reducible apply e_call); (simp; exact Red.rfl); exact cst _ true (by simp [hsr, hside])
            rintro _ _ ⟨rfl, rfl⟩
            repeat (first|(with_reducible first|apply X2|apply X8)|((with_reducible apply e_end);(simp;exact Red.rfl))|((with_reducible apply O1);rfl;(simp (disch:=omega);exact Red.rfl);exact Red.rfl;(focus (first|(simp;done)|omega|(simp;omega))))|((with_reducible apply Z9);(simp (disch:=omega);exact Red.rfl))|((with_reducible apply Z2);(simp (disch:=omega);exact Red.rfl)))
            have hf : thrB t s l i = false := by rw [hthr]; simp [hside]
            refine e_do (op := .mapDel _ _ _) rfl (den_delV (k := i) (w := wiF (hd t s l)) rfl rfl (by rw [at_new]; rfl) (le_mem hlt) (le_nd _ _ _)) Red.rfl trivial ?_
            rw [set_new, le_dropF hf]
            repeat (first|(with_reducible first|apply X2|apply X8|apply Y2)|((with_reducible apply e_end);(simp;exact Red.rfl))|((with_reducible apply O1);rfl;(simp (disch:=omega);exact Red.rfl);exact Red.rfl;(focus (first|(simp;done)|omega|(simp;omega)))))
            exact q_again ⟨i + 1, by omega⟩ (by dsimp only; omega) (.inl rfl)
          · (with_reducible apply e_call); (simp; exact Red.rfl); exact cst _ false (by simp [hsr, hside])
            rintro _ _ ⟨rfl, rfl⟩
            repeat (first|((with_reducible apply O1);rfl;(simp (disch:=omega);exact Red.rfl);exact Red.rfl;(focus (first|(simp;done)|omega|(simp;omega))))|((with_reducible apply Z7);(simp (disch:=omega);exact Red.rfl)))
            refine e_op (op := .mapGet _ _ _ _ _) rfl (den_getV (k := i) (w := wiF (hd t s l)) rfl rfl (by rw [at_new]; rfl) (le_mem hlt)) Red.rfl trivial ?_
            repeat ((with_reducible apply Z7);(simp (disch:=omega);exact Red.rfl))
            (with_reducible apply e_call); (simp; exact Red.rfl); exact cth hside _ (by rw [rd_old _ hid]; exact hs) _ cb
            rintro _ _ ⟨rfl, rfl⟩
            by_cases hw : a9 < htF (wiF (hd t s l) i) (dn t a6 a7) (up t s.t1 s.t2)
            · have hT : thrB t s l i = true := by rw [hthr]; simp [hside, hw]
              rw [← le_keepT hT]
              repeat (first|(with_reducible first|apply X2|apply X5|apply X8|apply Y2)|((with_reducible apply e_end);(simp;exact Red.rfl))|((with_reducible apply O1);rfl;(simp (disch:=omega) [hw];exact Red.rfl);exact Red.rfl;(focus (first|(simp;done)|omega|(simp;omega))))|((with_reducible apply Z7);(simp (disch:=omega) [hw];exact Red.rfl))|((with_reducible apply W3);(simp (disch:=omega) [hw];exact Red.rfl)))
              exact q_again ⟨i + 1, by omega⟩ (by dsimp only; omega) (.inl rfl)
            · have hf : thrB t s l i = false := by rw [hthr]; simp [hw]
              repeat (first|(with_reducible first|apply X2|apply X8)|((with_reducible apply e_end);(simp;exact Red.rfl))|((with_reducible apply O1);rfl;(simp (disch:=omega) [hw];exact Red.rfl);exact Red.rfl;(focus (first|(simp;done)|omega|(simp;omega))))|((with_reducible first|apply Z7|apply Z9);(simp (disch:=omega) [hw];exact Red.rfl)))
              refine e_do (op := .mapDel _ _ _) rfl (den_delV (k := i) (w := wiF (hd t s l)) rfl rfl (by rw [at_new]; rfl) (le_mem hlt) (le_nd _ _ _)) Red.rfl trivial ?_
              rw [set_new, le_dropF hf]
              repeat (first|(with_reducible first|apply X2|apply X8|apply Y2)|((with_reducible apply e_end);(simp;exact Red.rfl))|((with_reducible apply O1);rfl;(simp (disch:=omega);exact Red.rfl);exact Red.rfl;(focus (first|(simp;done)|omega|(simp;omega)))))
              exact q_again ⟨i + 1, by omega⟩ (by dsimp only; omega) (.inl rfl)
        · obtain rfl : i = l.length := by omega
          repeat (first|(with_reducible first|apply X1|apply X2|apply X4|apply X8|apply Y1|apply Y4|apply Y6)|((with_reducible apply e_end);(simp;exact Red.rfl))|((with_reducible apply O1);rfl;(simp (disch:=omega);exact Red.rfl);exact Red.rfl;(focus (first|(simp;done)|omega|(simp;omega))))|((with_reducible apply W3);(simp (disch:=omega);exact Red.rfl)))
          rw [le_end]
          (with_reducible apply e_call); (simp; exact Red.rfl); exact c_Keys _ (H.length + 1) (by simp)
          rintro _ _ ⟨rfl, rfl⟩
          have hX : (List.range l.length).filter (thrB t s l) = thL t s l := rfl
          rw [hX]
          have nd : (thL t s l).Nodup := List.Pairwise.filter _ List.nodup_range
          have hln : (thL t s l).length ≤ l.length := by
            have := List.length_filter_le (thrB t s l) (List.range l.length)
            simpa [thL] using this
          have inc : ∀ i j, i < j → j < (thL t s l).length → thK t s l i < thK t s l j := by
            intro i j hij hj
            have hp : (thL t s l).Pairwise (· < ·) := List.Pairwise.filter _ List.pairwise_lt_range
            have := List.pairwise_iff_getElem.1 hp i j (by omega) hj hij
            simp only [thK, List.getD_eq_getElem?_getD, List.getElem?_eq_getElem hj, List.getElem?_eq_getElem (show i < (thL t s l).length by omega), Option.getD_some]
            omega
          have KM : KeyMap (H ++ [.cells [.int .u8 s.c, .int .i64 s.s1, .int .i64 s.s2, .int .i64 s.r1, .int .i64 s.r2, .int .i64 s.d1, .int .i64 s.d2, .int .i64 s.w1, .int .i64 s.w2, .int .i64 s.t1, .int .i64 s.t2, .slice id off l.length 9 ex, .fn (.func (moF t)) [] [], .fn (.func (leF t)) [] []] true, moX (wiF (hd t s l)) (thL t s l) l.length, .cells (avR (r1 (wiF (hd t s l))) l.length) true, .cells [.map (H.length + 1)] true]) (H.length + 1) (mpV (wiF (hd t s l)) (thL t s l)) (thL t s l) l.length (thL t s l).length (thK t s l) :=
            ⟨by rw [at_new]; rfl, by simp [mpV], rfl, nd, fun b hb => List.mem_range.1 (List.mem_filter.1 hb).1, fun p hp => ⟨_, by
              rw [mpV_get _ (List.getElem?_eq_getElem hp)]
              simp only [thK, List.getD_eq_getElem?_getD, List.getElem?_eq_getElem hp, Option.getD_some]
              rfl⟩⟩
          have csd := c_Sorted _ (H.length + 3) (H.length + 1) l.length _ _ _ _ KM (by simp) (by omega) inc
          simp only [List.append_assoc, List.cons_append, List.nil_append, List.length_append, List.length_cons, List.length_nil, Nat.zero_add, Nat.reduceAdd]
          (with_reducible apply e_call); (simp; exact Red.rfl); exact csd
          rintro _ _ ⟨rfl, rfl⟩
          have pl := (plain_r1 (thK t s l)).plain (thL t s l).length
          generalize (thL t s l).length = m at pl ⊢
          unfold lV lO
          by_cases h0 : m = 0
          · simp only [if_pos h0, List.append_nil]
            repeat (first|(with_reducible first|apply X3|apply X8)|((with_reducible apply e_end);(simp;exact Red.rfl))|((with_reducible apply O1);rfl;(simp (disch:=omega);exact Red.rfl);exact Red.rfl;(focus (first|(simp;done)|omega|(simp;omega)))))
            exact q_post (v' := .nilslice) (.inr rfl) (by simp; exact Red.rfl) (le_drop (by simp)) ⟨rfl, rfl⟩
          · simp only [if_neg h0]
            repeat (first|(with_reducible first|apply X3|apply X8)|((with_reducible apply e_end);(simp;exact Red.rfl))|((with_reducible apply O1);rfl;(simp (disch:=omega);exact Red.rfl);exact Red.rfl;(focus (first|(simp;done)|omega|(simp;omega)))))
            exact q_post (v' := .slice H.length 0 m 1 false) (.inr rfl) (by simp; exact Red.rfl) (le_plain [4] _ (by simp) rfl (by simp; exact pl.o _) (by simp [sh, AV.ren])) ⟨rfl, rfl⟩
end Go.Proofs
/- Who is safe, and who may be thrown where. -/
namespace Go.Proofs
open Go.Abs
attribute [local simp] AOp.den AOpd.ev lk cellsOf rd_new rd_new0 rd_zero rd_succ wr_new wr_new0 wr_zero wr_succ splice fillA binA scal sliceCells List.length_append argsT AV.sc scL AObj.sc resV getAll AR.get AOp.slots opdSlots opdsSlots partSlots eqAt at_new0 at_new set_new0 set_new wrap64
set_option linter.unusedSimpArgs false
set_option linter.unusedVariables false
/-- How many curves may throw. -/
def thN (t : Bool) (s : Sl) (l : List Str) : Nat := (thL t s l).length
theorem thN_zero {t : Bool} {s : Sl} {l : List Str} : thN t s l = 0 ↔ ∀ i, i < l.length → thrB t s l i = false := by
  unfold thN thL
  rw [List.length_eq_zero_iff, List.filter_eq_nil_iff]
  constructor
  · intro h i hi; have := h i (List.mem_range.2 hi); simpa using this
  · intro h i hi; have := h i (List.mem_range.1 hi); simp [this]
/-- The first one of them. -/
def thC (t : Bool) (s : Sl) (l : List Str) : Nat := (thL t s l).getD 0 0
theorem thC_is {t : Bool} {s : Sl} {l : List Str} (h : thN t s l ≠ 0) : thC t s l < l.length ∧ thrB t s l (thC t s l) = true ∧ ∀ j, j < thC t s l → thrB t s l j = false := by
  unfold thN at h
  have hpos : 0 < (thL t s l).length := by omega
  have e : thC t s l = (thL t s l)[0] := by unfold thC; rw [List.getD_eq_getElem?_getD, List.getElem?_eq_getElem hpos]; rfl
  have hm : thC t s l ∈ thL t s l := by rw [e]; exact List.getElem_mem _
  obtain ⟨h1, h2⟩ := List.mem_filter.1 hm
  refine ⟨List.mem_range.1 h1, h2, fun j hj => ?_⟩
  cases hb : thrB t s l j with
  | false => rfl
  | true =>
    exfalso
    have hjm : j ∈ thL t s l := List.mem_filter.2 ⟨List.mem_range.2 (by have := List.mem_range.1 h1; omega), hb⟩
    obtain ⟨p, hp, hpe⟩ := List.mem_iff_getElem.1 hjm
    have hpw : (thL t s l).Pairwise (· < ·) := List.Pairwise.filter _ List.pairwise_lt_range
    rcases Nat.eq_zero_or_pos p with h0 | h0
    · subst h0; rw [← e] at hpe; omega
    · have := List.pairwise_iff_getElem.1 hpw 0 p hpos hp h0
      rw [← e, hpe] at this; omega

theorem c_safe (H : Heap) (s : Sl) (l : List Str) (id off : Nat) (ex : Bool) (hs : rd H id off (l.length * 9) = some (l.flatMap Str.av)) (hv : validL l) (hk : s.ok) :
    ACalls Try.prog F.slide_slider_safe [.agg (s.av ++ [.slice id off l.length 9 ex])] H (fun v h' => v = .bool (decide (thN true s l = 0)) ∧ h' = H) := by
  have hid := rd_lt hs
  have cf := fun H' h => c_fastest H' s id off l.length ex h
  have ct := fun H' h => c_throwing true H' s l id off ex h hv hk
  have hN : (thL true s l).length = thN true s l := rfl
  simp only [trv, Sl.av, List.cons_append, List.nil_append] at cf ct ⊢
  refine acalls_of ok_slide_slider_safe rfl fun hcl => ?_
  unfold ac_slide_slider_safe
  simp only [argsT, Nat.zero_add, Nat.reduceAdd]
  repeat (first|(with_reducible first|apply X1|apply X2|apply X8)|((with_reducible apply e_end);(simp;exact Red.rfl))|((with_reducible apply O1);rfl;(simp (disch:=omega);exact Red.rfl);exact Red.rfl;(focus (first|(simp;done)|omega|(simp;omega)))))
  (with_reducible apply e_call); (simp; exact Red.rfl); exact cf _ (by simp; omega)
  rintro _ _ ⟨rfl, rfl⟩
  skip
  (with_reducible apply e_call); (simp; exact Red.rfl); exact ct _ (by rw [rd_old _ hid]; exact hs)
  rintro _ _ ⟨rfl, rfl⟩
  rw [hN]
  unfold lV lO
  by_cases h0 : thN true s l = 0
  · simp only [if_pos h0, List.append_nil]
    repeat (first|(with_reducible first|apply X3|apply X8)|((with_reducible apply e_end);(simp;exact Red.rfl))|((with_reducible apply O1);rfl;(simp (disch:=omega);exact Red.rfl);exact Red.rfl;(focus (first|(simp;done)|omega|(simp;omega)))))
    refine q_drop (.inr rfl) (by simp; exact Red.rfl) (by simp) ⟨by simp [h0], rfl⟩
  · simp only [if_neg h0]
    have h1 : ¬ ((thN true s l : Nat) : Int) = 0 := by omega
    repeat (first|(with_reducible first|apply X3|apply X8)|((with_reducible apply e_end);(simp;exact Red.rfl))|((with_reducible apply O1);rfl;(simp (disch:=omega) [h0, h1];exact Red.rfl);exact Red.rfl;(focus (first|(simp;done)|omega|(simp;omega)))))
    refine q_drop (.inr rfl) (by simp; exact Red.rfl) (by simp) ⟨by simp [h0], rfl⟩

/-- What is known of a sled. -/
def knF (s : Sl) (l : List Str) : Int := if thN true s l = 0 then 2 else if thN false s l = 0 then 1 else 0
theorem c_Safe (H : Heap) (l : List Str) (id off : Nat) (ex : Bool) (s : Sl) (hs : rd H id off (l.length * 9) = some (l.flatMap Str.av)) (hv : validL l) (hk : s.ok) :
    ACalls Try.prog F.slide_Safe [.agg [.slice id off l.length 9 ex], .agg s.av] H (fun v h' => v = .tuple [.int .u8 (knF s l), .int .i64 0] ∧ h' = H) := by
  have hid := rd_lt hs
  have h12 := hv.1
  have ck := fun H' h1 xid h2 => c_checkOne H' l id off ex s xid 0 true h1 hv hk h2
  have csf := fun H' h => c_safe H' s l id off ex h hv hk
  have cs := fun H' h => c_slowest H' s id off l.length ex h
  have ct := fun H' h => c_throwing false H' s l id off ex h hv hk
  have hN : (thL false s l).length = thN false s l := rfl
  unfold knF
  simp only [trv, Sl.av, List.cons_append, List.nil_append] at ck csf cs ct ⊢
  refine acalls_of ok_slide_Safe rfl fun hcl => ?_
  unfold ac_slide_Safe
  simp only [argsT, Nat.zero_add, Nat.reduceAdd]
  repeat (first|(with_reducible first|apply X1|apply X2|apply X8)|((with_reducible apply e_end);(simp;exact Red.rfl))|((with_reducible apply O1);rfl;(simp (disch:=omega);exact Red.rfl);exact Red.rfl;(focus (first|(simp;done)|omega|(simp;omega)))))
  (with_reducible apply e_call); (simp; exact Red.rfl); exact ck _ (by rw [rd_old _ hid]; exact hs) _ (by simp)
  rintro _ _ ⟨rfl, rfl⟩
  repeat (first|(with_reducible first|apply X1|apply X2|apply X5|apply X6|apply X8)|((with_reducible apply e_end);(simp;exact Red.rfl))|((first|((with_reducible apply O1);rfl)|((with_reducible apply O2);rfl));(simp (disch:=omega);exact Red.rfl);exact Red.rfl;(focus (first|(simp;done)|omega|(simp;omega))))|((with_reducible apply W3);(simp (disch:=omega);exact Red.rfl)))
  (with_reducible apply e_call); (simp; exact Red.rfl); exact csf _ (by rw [rd_old _ hid]; exact hs)
  rintro _ _ ⟨rfl, rfl⟩
  by_cases h0 : thN true s l = 0
  · repeat (first|(with_reducible first|apply X1|apply X2|apply X3|apply X8|apply X9|apply Y3)|((with_reducible apply e_end);(simp;exact Red.rfl))|((with_reducible apply O1);rfl;(simp (disch:=omega) [h0];exact Red.rfl);exact Red.rfl;(focus (first|(simp;done)|omega|(simp;omega))))|((with_reducible apply Z9);(simp (disch:=omega) [h0];exact Red.rfl)))
    refine q_drop (.inr rfl) (by simp; exact Red.rfl) (by simp) ⟨by simp [h0], rfl⟩
  · repeat (first|(with_reducible first|apply X1|apply X2|apply X8)|((with_reducible apply e_end);(simp;exact Red.rfl))|((with_reducible apply O1);rfl;(simp (disch:=omega) [h0];exact Red.rfl);exact Red.rfl;(focus (first|(simp;done)|omega|(simp;omega))))|((with_reducible apply W3);(simp (disch:=omega) [h0];exact Red.rfl)))
    (with_reducible apply e_call); (simp; exact Red.rfl); exact cs _ (by simp; omega)
    rintro _ _ ⟨rfl, rfl⟩
    skip
    (with_reducible apply e_call); (simp; exact Red.rfl); exact ct _ (by simp only [List.append_assoc, rd_old _ hid]; exact hs)
    rintro _ _ ⟨rfl, rfl⟩
    rw [hN]
    unfold lV lO
    by_cases h1 : thN false s l = 0
    · simp only [if_pos h1, List.append_nil]
      repeat (first|(with_reducible first|apply X1|apply X2|apply X3|apply X5|apply X8|apply Y2)|((with_reducible apply e_end);(simp;exact Red.rfl))|((with_reducible apply O1);rfl;(simp (disch:=omega);exact Red.rfl);exact Red.rfl;(focus (first|(simp;done)|omega|(simp;omega))))|((with_reducible apply W3);(simp (disch:=omega);exact Red.rfl)))
      refine q_drop (.inr rfl) (by simp; exact Red.rfl) (by simp) ⟨by simp [h0, h1], rfl⟩
    · simp only [if_neg h1]
      have h2 : 0 < ((thN false s l : Nat) : Int) := by omega
      have h3 : 0 < thN false s l := by omega
      repeat (first|(with_reducible first|apply X1|apply X2|apply X3|apply X8|apply X9|apply Y3)|((with_reducible apply e_end);(simp;exact Red.rfl))|((with_reducible apply O1);rfl;(simp (disch:=omega) [h2, h3];exact Red.rfl);exact Red.rfl;(focus (first|(simp;done)|omega|(simp;omega))))|((with_reducible apply Z9);(simp (disch:=omega) [h2, h3];exact Red.rfl)))
      refine q_drop (.inr rfl) (by simp; exact Red.rfl) (by simp) ⟨by simp [h0, h1], rfl⟩

/-- The least number of which something is so, up to one. -/
def leastF (p : Int → Bool) : Nat → Nat
  | 0 => 0
  | n + 1 => if p (leastF p n) = true then leastF p n else if leastF p n = n then n + 1 else leastF p n
theorem leastF_is (p : Int → Bool) : ∀ n, leastF p n ≤ n ∧ (∀ m : Nat, m < leastF p n → p m = false) ∧ (leastF p n < n → p (leastF p n) = true)
  | 0 => ⟨Nat.le_refl _, fun m h => by simp [leastF] at h, fun h => by simp [leastF] at h⟩
  | n + 1 => by
    obtain ⟨h1, h2, h3⟩ := leastF_is p n
    simp only [leastF]
    by_cases hp : p (leastF p n) = true
    · rw [if_pos hp]; exact ⟨by omega, h2, fun _ => hp⟩
    · rw [if_neg hp]
      by_cases he : leastF p n = n
      · rw [if_pos he]
        refine ⟨Nat.le_refl _, fun m hm => ?_, fun h => by omega⟩
        rcases Nat.lt_or_ge m n with h | h
        · exact h2 m (by omega)
        · obtain rfl : m = leastF p n := by omega
          simpa using hp
      · rw [if_neg he]; exact absurd (h3 (by omega)) hp
theorem least_uniq {p : Int → Bool} {n : Nat} {r : Int} (h0 : 0 ≤ r) (hn : r ≤ n) (h1 : ∀ m, 0 ≤ m → m < r → p m = false) (h2 : ∀ m, r ≤ m → m < n → p m = true) : r = leastF p n := by
  obtain ⟨g1, g2, g3⟩ := leastF_is p n
  rcases Int.lt_trichotomy r (leastF p n) with h | h | h
  · have e1 := g2 r.toNat (by omega)
    have e2 := h2 r (Int.le_refl _) (by omega)
    rw [Int.toNat_of_nonneg h0, e2] at e1; cases e1
  · exact h
  · have e1 := h1 (leastF p n) (by omega) h
    rw [g3 (by omega)] at e1; cases e1

theorem c_firstL (H : Heap) (g : FuncId) (caps : List AV) (b : Int) (p : Int → Bool) (hab : 0 ≤ b) (hb : b ≤ 4000000000000000000) (hcaps : scL H.length caps = true)
    (hp : ∀ m, 0 ≤ m → m < b → ACalls Try.prog g (.int .i64 m :: caps) H (fun v h' => v = .bool (p m) ∧ h' = H)) (hm : ∀ m, 0 ≤ m → m + 1 < b → p m = true → p (m + 1) = true) :
    ACalls Try.prog F.span_First_int [.int .i64 0, .int .i64 b, .fn (.func g) [] caps] H (fun v h' => v = .int .i64 (leastF p b.toNat) ∧ h' = H) :=
  (c_first H g caps 0 b p (Int.le_refl _) hab hb hcaps hp hm).mono fun _ _ ⟨he, r, hv, h1, h2, h3, h4⟩ => ⟨by rw [hv, least_uniq (p := p) (n := b.toNat) h1 (by omega) h3 (fun m q1 q2 => h4 m q1 (by omega))], he⟩

/-- Whether a curve throws at a head. -/
def thrP (t : Bool) (s : Sl) (l : List Str) (i : Nat) (x : Int) : Bool := decide ((strAt l i).wall < htF x (dn t (strAt l i).rLo (strAt l i).rHi) (up t s.t1 s.t2))
theorem thrP_mono {t : Bool} {s : Sl} {l : List Str} {i : Nat} (hr : 1 ≤ dn t (strAt l i).rLo (strAt l i).rHi) {x y : Int} (hx : 0 ≤ x) (hxy : x ≤ y) (h : thrP t s l i x = true) : thrP t s l i y = true := by
  simp only [thrP, decide_eq_true_eq] at h ⊢
  have := ht_mono (t := up t s.t1 s.t2) (t' := up t s.t1 s.t2) hx hxy (show 0 < dn t (strAt l i).rLo (strAt l i).rHi by omega) (Int.le_refl _) (Int.le_refl _)
  omega
/-- The head at which a curve throws, at least. -/
def nmR (s : Sl) (l : List Str) : Int := leastF (thrP true s l (thC true s l)) (wiF (hd true s l) (thC true s l)).toNat

theorem c_Names1 (H : Heap) (s : Sl) (l : List Str) (id off : Nat) (ex : Bool) (tid cid i : Nat) (x : Int) (hs : rd H id off (l.length * 9) = some (l.flatMap Str.av)) (hv : validL l) (hk : s.ok)
    (ht : rd H tid 0 14 = some (trv true s (.slice id off l.length 9 ex))) (hc : rd H cid 0 1 = some [.int .i64 i]) (hi : i < l.length) (hside : (strAt l i).side ≠ 0) (hx : 0 ≤ x ∧ x ≤ 260000) :
    ACalls Try.prog F.slide_Names_1 [.int .i64 x, .ptr tid 0, .ptr cid 0] H (fun v h' => v = .bool (thrP true s l i x) ∧ h' = H) := by
  have cth := c_throws true H s l id off ex hs hv hk i hi x hx hside
  simp only [trv, Sl.av, List.cons_append, List.nil_append] at ht cth
  refine acalls_of ok_slide_Names_1 rfl fun hcl => ?_
  unfold ac_slide_Names_1
  simp only [argsT, Nat.zero_add, Nat.reduceAdd]
  repeat (first|(with_reducible first|apply X1|apply X2|apply X8)|((with_reducible apply e_end);(simp;exact Red.rfl))|((with_reducible apply O1);rfl;(simp (disch:=omega) [ht, hc];exact Red.rfl);exact Red.rfl;(focus (first|(simp;done)|omega|(simp;omega)))))
  (with_reducible apply e_call); (simp; exact Red.rfl); exact cth
  rintro _ _ ⟨rfl, rfl⟩
  repeat (first|(with_reducible first|apply X3|apply X8)|((with_reducible apply e_end);(simp;exact Red.rfl))|((with_reducible apply O1);rfl;(simp (disch:=omega);exact Red.rfl);exact Red.rfl;(focus (first|(simp;done)|omega|(simp;omega)))))
  refine q_drop0 (.inr rfl) (by simp; exact Red.rfl) (by simp) ⟨rfl, rfl⟩

theorem c_Names (H : Heap) (l : List Str) (id off : Nat) (ex : Bool) (s : Sl) (hs : rd H id off (l.length * 9) = some (l.flatMap Str.av)) (hv : validL l) (hk : s.ok) :
    ACalls Try.prog F.slide_Names [.agg [.slice id off l.length 9 ex], .agg s.av] H (fun v h' => h' = H ∧ ((thN true s l = 0 ∧ v = .tuple [.int .i64 0, .int .i64 0, .int .i64 6]) ∨ (thN true s l ≠ 0 ∧ v = .tuple [.int .i64 (thC true s l), .int .i64 (dnV (nmR s l)), .int .i64 0]))) := by
  have hid := rd_lt hs
  have h12 := hv.1
  have ck := fun H' h1 xid h2 => c_checkOne H' l id off ex s xid 0 true h1 hv hk h2
  have cf := fun H' h => c_fastest H' s id off l.length ex h
  have ct := fun H' h => c_throwing true H' s l id off ex h hv hk
  have cw := fun H' h => c_swithin true H' s l id off ex h hv hk
  have hN : (thL true s l).length = thN true s l := rfl
  have c1 := fun H' tid cid i x h h2 h3 h4 h5 h6 => c_Names1 H' s l id off ex tid cid i x h hv hk h2 h3 h4 h5 h6
  simp only [trv, Sl.av, List.cons_append, List.nil_append] at ck cf ct cw c1 ⊢
  refine acalls_of ok_slide_Names rfl fun hcl => ?_
  unfold ac_slide_Names
  simp only [argsT, Nat.zero_add, Nat.reduceAdd]
  repeat (first|(with_reducible first|apply X1|apply X2|apply X8)|((with_reducible apply e_end);(simp;exact Red.rfl))|((with_reducible apply O1);rfl;(simp (disch:=omega);exact Red.rfl);exact Red.rfl;(focus (first|(simp;done)|omega|(simp;omega)))))
  (with_reducible apply e_call); (simp; exact Red.rfl); exact ck _ (by rw [rd_old _ hid]; exact hs) _ (by simp)
  rintro _ _ ⟨rfl, rfl⟩
  repeat (first|(with_reducible first|apply X1|apply X2|apply X5|apply X8)|((with_reducible apply e_end);(simp;exact Red.rfl))|((with_reducible apply O1);rfl;(simp (disch:=omega);exact Red.rfl);exact Red.rfl;(focus (first|(simp;done)|omega|(simp;omega))))|((with_reducible apply W3);(simp (disch:=omega);exact Red.rfl)))
  (with_reducible apply e_call); (simp; exact Red.rfl); exact cf _ (by simp; omega)
  rintro _ _ ⟨rfl, rfl⟩
  repeat (first|(with_reducible first|apply X1|apply X2|apply X8)|((with_reducible apply e_end);(simp;exact Red.rfl))|((first|((with_reducible apply O1);rfl)|((with_reducible apply O2);rfl));(simp (disch:=omega);exact Red.rfl);exact Red.rfl;(focus (first|(simp;done)|omega|(simp;omega)))))
  (with_reducible apply e_call); (simp; exact Red.rfl); exact ct _ (by simp only [List.append_assoc, rd_old _ hid]; exact hs)
  rintro _ _ ⟨rfl, rfl⟩
  rw [hN]
  unfold lV lO
  by_cases h0 : thN true s l = 0
  · simp only [if_pos h0, List.append_nil]
    repeat (first|(with_reducible first|apply X1|apply X2|apply X3|apply X8|apply X9)|((with_reducible apply e_end);(simp;exact Red.rfl))|((first|((with_reducible apply O1);rfl)|((with_reducible apply O2);rfl));(simp (disch:=omega);exact Red.rfl);exact Red.rfl;(focus (first|(simp;done)|omega|(simp;omega))))|((with_reducible apply Z9);(simp (disch:=omega);exact Red.rfl)))
    refine q_drop (.inr rfl) (by simp; exact Red.rfl) (by simp) ⟨rfl, .inl ⟨h0, rfl⟩⟩
  · simp only [if_neg h0]
    obtain ⟨k1, k2, k3⟩ := thC_is h0
    have h1 : ¬ ((thN true s l : Nat) : Int) = 0 := by omega
    have h2 : 0 < thN true s l := by omega
    have h3 : (0 : Int) < ((thN true s l : Nat) : Int) := by omega
    have h4 : 1 ≤ thN true s l := h2
    have e0 : thK true s l 0 = (thC true s l : Nat) := rfl
    have q0 : (avR (r1 (thK true s l)) (thN true s l)).take 1 = [.int .i64 (thC true s l : Nat)] := by
      have := (plain_r1 (thK true s l)).part (n := thN true s l) (i := 0) (c := 0) (m := 1) h2 (by omega)
      simpa [r1, e0] using this
    have ll := (plain_r1 (thK true s l)).length (thN true s l)
    repeat (first|(with_reducible first|apply X1|apply X2|apply X5|apply X8|apply Y9)|((with_reducible apply e_end);(simp;exact Red.rfl))|((first|((with_reducible apply O1);rfl)|((with_reducible apply O2);rfl)|((with_reducible apply P2);rfl));(simp (disch:=omega) [h0, h1, h2, h3, h4, q0, ll];exact Red.rfl);exact Red.rfl;(focus (first|(simp;done)|omega|(simp;omega))))|((with_reducible apply W3);(simp (disch:=omega) [h0, h1, h2, h3, h4, q0, ll];exact Red.rfl)))
    have hsd : (strAt l (thC true s l)).side ≠ 0 := by
      simp only [thrB, decide_eq_true_eq] at k2; exact k2.1
    have hrad := curve_rad hv k1 hsd
    have cb := wi_bd hv hk true k1
    have qW : ((avR (r1 (wiF (hd true s l))) l.length).drop (thC true s l)).take 1 = [.int .i64 (wiF (hd true s l) (thC true s l))] := by
      simpa [r1] using (plain_r1 (wiF (hd true s l))).part (n := l.length) (i := thC true s l) (c := 0) (m := 1) k1 (by omega)
    have lw := (plain_r1 (wiF (hd true s l))).length l.length
    have hR : nmR s l = leastF (thrP true s l (thC true s l)) (wiF (hd true s l) (thC true s l)).toNat := rfl
    have hRb := (leastF_is (thrP true s l (thC true s l)) (wiF (hd true s l) (thC true s l)).toNat).1
    have pmono : ∀ m, 0 ≤ m → m + 1 < wiF (hd true s l) (thC true s l) → thrP true s l (thC true s l) m = true → thrP true s l (thC true s l) (m + 1) = true :=
      fun m hm _ h => thrP_mono (by rw [show dn true (strAt l (thC true s l)).rLo (strAt l (thC true s l)).rHi = (strAt l (thC true s l)).rLo from rfl]; omega) hm (by omega) h
    have e1 : thC true s l + 1 ≤ l.length := k1
    have e2 : ((thC true s l : Nat) : Int) < l.length := by omega
    (with_reducible apply d_call_); (simp; exact Red.rfl); exact cw _ (by simp only [List.append_assoc, rd_old _ hid]; exact hs); (focus (first | (simp; done) | (simp; omega)))
    generalize hcc : thC true s l = cu at *
    repeat (first|((first|((with_reducible apply P1);rfl)|((with_reducible apply P2);rfl));(simp (disch:=omega) [qW, lw, e1, e2, k1];exact Red.rfl);exact Red.rfl;(focus (first|(simp;done)|omega|(simp;omega))))|((with_reducible apply P7);rfl;(simp (disch:=omega) [qW, lw, e1, e2, k1];exact Red.rfl);exact Red.rfl;(focus (simp [repast, pr, AOp.sem];done))))
    (with_reducible apply d_call); (simp; exact Red.rfl)
    · exact c_firstL _ F.slide_Names_1 [.ptr (H.length + 4) 0, .ptr (H.length + 2) 0] (wiF (hd true s l) cu) (thrP true s l cu) (by omega) (by omega) (by simp)
        (fun m hm hm2 => c1 _ (H.length + 4) (H.length + 2) cu m (by simp only [List.append_assoc, rd_old _ hid]; exact hs) (by simp) (by simp) k1 hsd (by omega)) pmono
    · simp
    rw [← hR]
    have hRb2 : 0 ≤ nmR s l ∧ nmR s l ≤ 260000 := by rw [hR]; omega
    generalize nmR s l = rr at hRb2 ⊢
    repeat (first|(with_reducible first|apply X1|apply X8|apply Y9)|((with_reducible apply d_end);(simp;exact Red.rfl))|((first|((with_reducible apply P1);rfl)|((with_reducible apply P2);rfl));(simp (disch:=omega);exact Red.rfl);exact Red.rfl;(focus (first|(simp;done)|omega|(simp;omega)))))
    (with_reducible apply d_call); (simp; exact Red.rfl); exact c_speedOf' _ _ (by omega); (focus (first | (simp; done) | (simp; omega)))
    repeat (first|(with_reducible first|apply X3|apply X8)|((with_reducible apply d_end);(simp;exact Red.rfl))|((first|((with_reducible apply P1);rfl)|((with_reducible apply P4);rfl));(simp (disch:=omega);exact Red.rfl);exact Red.rfl;(focus (first|(simp;done)|omega|(simp;omega)))))
    refine q_drop (.inr rfl) (by simp; exact Red.rfl) (by simp) ⟨rfl, .inr ⟨h0, rfl⟩⟩
end Go.Proofs
/- Walls, and what they are. -/
namespace Go.Proofs
open Go.Abs
attribute [local simp] AOp.den AOpd.ev lk cellsOf rd_new rd_new0 rd_zero rd_succ wr_new wr_new0 wr_zero wr_succ splice fillA binA scal sliceCells List.length_append argsT AV.sc scL AObj.sc resV getAll AR.get AOp.slots opdSlots opdsSlots partSlots eqAt at_new0 at_new set_new0 set_new wrap64
set_option linter.unusedSimpArgs false
set_option linter.unusedVariables false
/-- How high a wall has to be. -/
def wlF (s : Sl) (l : List Str) (j : Nat) : Int := if (strAt l j).side = 0 then 0 else if 0 < htF (wiF (hd true s l) j) (strAt l j).rLo s.t2 then htF (wiF (hd true s l) j) (strAt l j).rLo s.t2 else 0
def wlS (s : Sl) (l : List Str) (i j : Nat) : Int := if j < i then wlF s l j else 0

set_option maxHeartbeats 2000000 in
theorem c_Walls (H : Heap) (l : List Str) (id off : Nat) (ex : Bool) (s : Sl) (hs : rd H id off (l.length * 9) = some (l.flatMap Str.av)) (hv : validL l) (hk : s.ok) :
    ACalls Try.prog F.slide_Walls [.agg [.slice id off l.length 9 ex], .agg s.av] H
      (fun v h' => v = .tuple [.slice H.length 0 l.length 1 true, .int .i64 0] ∧ h' = H ++ [.cells (avR (r1 (wlF s l)) l.length) true]) := by
  have hid := rd_lt hs
  have h12 := hv.1
  have ck := fun H' h1 xid h2 => c_checkOne H' l id off ex s xid 0 true h1 hv hk h2
  have cf := fun H' h => c_fastest H' s id off l.length ex h
  have cw := fun H' h => c_swithin true H' s l id off ex h hv hk
  have ch := fun i hi hc H' h x hx => c_height true H' s l id off ex h hk i hi x hx (curve_rad hv hi hc)
  have wl := (plain_r1 (wiF (hd true s l))).length l.length
  have plW := (plain_r1 (wiF (hd true s l))).plain l.length
  simp only [trv, Sl.av, List.cons_append, List.nil_append] at ck cf cw ch ⊢
  refine acalls_of ok_slide_Walls rfl fun hcl => ?_
  unfold ac_slide_Walls
  simp only [argsT, Nat.zero_add, Nat.reduceAdd]
  repeat (first|(with_reducible first|apply X1|apply X2|apply X8)|((with_reducible apply e_end);(simp;exact Red.rfl))|((with_reducible apply O1);rfl;(simp (disch:=omega);exact Red.rfl);exact Red.rfl;(focus (first|(simp;done)|omega|(simp;omega)))))
  (with_reducible apply e_call); (simp; exact Red.rfl); exact ck _ (by rw [rd_old _ hid]; exact hs) _ (by simp)
  rintro _ _ ⟨rfl, rfl⟩
  repeat (first|(with_reducible first|apply X1|apply X2|apply X5|apply X8)|((with_reducible apply e_end);(simp;exact Red.rfl))|((with_reducible apply O1);rfl;(simp (disch:=omega);exact Red.rfl);exact Red.rfl;(focus (first|(simp;done)|omega|(simp;omega))))|((with_reducible apply W3);(simp (disch:=omega);exact Red.rfl)))
  (with_reducible apply e_call); (simp; exact Red.rfl); exact cf _ (by simp; omega)
  rintro _ _ ⟨rfl, rfl⟩
  repeat (first|(with_reducible first|apply X1|apply X2|apply X8)|((with_reducible apply e_end);(simp;exact Red.rfl))|((first|((with_reducible apply O1);rfl)|((with_reducible apply O2);rfl));(simp (disch:=omega);exact Red.rfl);exact Red.rfl;(focus (first|(simp;done)|omega|(simp;omega)))))
  (with_reducible apply e_call); (simp; exact Red.rfl); exact cw _ (by simp only [List.append_assoc, rd_old _ hid]; exact hs)
  rintro _ _ ⟨rfl, rfl⟩
  repeat (first|(with_reducible first|apply X6|apply X8)|((with_reducible apply e_end);(simp;exact Red.rfl))|((with_reducible apply O1);rfl;(simp (disch:=omega);exact Red.rfl);exact Red.rfl;(focus (first|(simp;done)|omega|(simp;omega)))))
  have e0 : List.replicate l.length (AV.int .i64 0) = avR (r1 (wlS s l 0)) l.length := by
    rw [r1_rep']; exact avR_congr fun j _ => by simp [r1, wlS]
  rw [e0]
  refine e_loop (ι := { i : Nat // i ≤ l.length })
    (fun i => [(2, .ptr H.length 0), (7, .ptr (H.length + 3) 0), (8, .slice (H.length + 4) 0 l.length 1 true), (28, .slice (H.length + 5) 0 l.length 1 true), (29, .int .i64 l.length), (30, .int .i64 i.1)])
    (fun i => H ++ [.cells [.slice id off l.length 9 ex] true, .cells [.int .u8 s.c, .int .i64 s.s1, .int .i64 s.s2, .int .i64 s.r1, .int .i64 s.r2, .int .i64 s.d1, .int .i64 s.d2, .int .i64 s.w1, .int .i64 s.w2, .int .i64 s.t1, .int .i64 s.t2] true, .cells [.int .u8 s.c, .int .i64 s.s1, .int .i64 s.s2, .int .i64 s.r1, .int .i64 s.r2, .int .i64 s.d1, .int .i64 s.d2, .int .i64 s.w1, .int .i64 s.w2, .int .i64 s.t1, .int .i64 s.t2] true, .cells [.int .u8 s.c, .int .i64 s.s1, .int .i64 s.s2, .int .i64 s.r1, .int .i64 s.r2, .int .i64 s.d1, .int .i64 s.d2, .int .i64 s.w1, .int .i64 s.w2, .int .i64 s.t1, .int .i64 s.t2, .slice id off l.length 9 ex, .fn (.func (moF true)) [] [], .fn (.func (leF true)) [] []] true, .cells (avR (r1 (wlS s l i.1)) l.length) true, .cells (avR (r1 (wiF (hd true s l))) l.length) true]) (fun i => l.length - i.1) ⟨0, by simp⟩ ?_ ?_
  · exact .inl rfl
  · rintro ⟨i, hi⟩
    dsimp only
    by_cases hlt : i < l.length
    · have hlt2 : (i : Int) < l.length := by omega
      have le1 : i + 1 ≤ l.length := hlt
      have q1 : ((avR (r1 (wiF (hd true s l))) l.length).drop i).take 1 = [.int .i64 (wiF (hd true s l) i)] := by
        simpa [r1] using (plain_r1 (wiF (hd true s l))).part (n := l.length) (i := i) (c := 0) (m := 1) hlt (by omega)
      have ll := (plain_r1 (wlS s l i)).length l.length
      have hx := rd_row Str.av_length hs hlt
      have hst := strAt_eq hlt
      rw [← hst] at hx
      have cb := wi_bd hv hk true hlt
      have hsr := str_rad hv hlt
      have cst := fun H' b hb => c_straight H' (strAt l i) (b := b) hb
      have ch := ch i hlt
      have hwl : wlF s l i = if (strAt l i).side = 0 then 0 else if 0 < htF (wiF (hd true s l) i) (strAt l i).rLo s.t2 then htF (wiF (hd true s l) i) (strAt l i).rLo s.t2 else 0 := rfl
      have hp0 : (strAt l i).side = 0 → avR (r1 (wlS s l i)) l.length = avR (r1 (wlS s l (i + 1))) l.length := fun h => avR_congr fun j _ => by
        have e : wlF s l i = 0 := by rw [hwl, if_pos h]
        simp only [r1, wlS]
        by_cases hj : j = i
        · subst hj; simp [e]
        · have e2 : (j < i + 1) ↔ (j < i) := by omega
          simp only [e2]
      have hp1 : splice (avR (r1 (wlS s l i)) l.length) i [.int .i64 (wlF s l i)] = avR (r1 (wlS s l (i + 1))) l.length := by
        have := r1_put (f := wlS s l i) (f' := wlS s l (i + 1)) (n := l.length) hlt (fun j _ hj => by
          have e2 : (j < i + 1) ↔ (j < i) := by omega
          simp only [wlS, e2])
        simpa [wlS] using this
      generalize strAt l i = st at hx hsr cst ch hwl hp0
      obtain ⟨a1, a2, a3, a4, a5, a6, a7, a8, a9⟩ := st
      simp only [Str.av] at hx cst
      dsimp only at hsr cst ch hwl hp0
      rw [show dn true a6 a7 = a6 from rfl, show up true s.t1 s.t2 = s.t2 from rfl] at ch
      repeat (first|(with_reducible first|apply X1|apply X2|apply X5|apply X6|apply X8)|((with_reducible apply e_end);(simp;exact Red.rfl))|((with_reducible apply O1);rfl;(simp (disch:=omega) [hlt, hlt2, le1, q1, wl, rd_old _ hid, hx];exact Red.rfl);exact Red.rfl;(focus (first|(simp;done)|omega|(simp;omega))))|((with_reducible apply Z9);(simp (disch:=omega) [hlt, hlt2, le1, q1, wl, rd_old _ hid, hx];exact Red.rfl)))
      by_cases hside : a8 = 0
      · (with_reducible apply e_call); (simp; exact Red.rfl); exact cst _ true (by simp [hsr, hside])
        rintro _ _ ⟨rfl, rfl⟩
        repeat (first|(with_reducible first|apply X2|apply X5|apply X8|apply Y2)|((with_reducible apply e_end);(simp;exact Red.rfl))|((with_reducible apply O1);rfl;(simp (disch:=omega);exact Red.rfl);exact Red.rfl;(focus (first|(simp;done)|omega|(simp;omega))))|((with_reducible apply W3);(simp (disch:=omega);exact Red.rfl)))
        rw [hp0 hside]
        exact q_again ⟨i + 1, by omega⟩ (by dsimp only; omega) (.inl rfl)
      · (with_reducible apply e_call); (simp; exact Red.rfl); exact cst _ false (by simp [hsr, hside])
        rintro _ _ ⟨rfl, rfl⟩
        repeat (first|(with_reducible first|apply X2|apply X8)|((with_reducible apply e_end);(simp;exact Red.rfl))|((with_reducible apply O1);rfl;(simp (disch:=omega);exact Red.rfl);exact Red.rfl;(focus (first|(simp;done)|omega|(simp;omega))))|((with_reducible apply Z9);(simp (disch:=omega);exact Red.rfl)))
        rw [if_neg hside] at hwl
        (with_reducible apply e_call); (simp; exact Red.rfl); exact ch hside _ (by rw [rd_old _ hid]; exact hs) _ cb
        rintro _ _ ⟨rfl, rfl⟩
        generalize htF (wiF (hd true s l) i) a6 s.t2 = W at *
        by_cases hw : 0 < W
        · rw [if_pos hw] at hwl
          rw [hwl] at hp1
          repeat (first|(with_reducible first|apply X2|apply X8|apply Y2)|((with_reducible apply e_end);(simp;exact Red.rfl))|((first|((with_reducible apply O1);rfl)|((with_reducible apply O2);rfl));(simp (disch:=omega) [hw, le1, ll, -splice, hp1];exact Red.rfl);exact Red.rfl;(focus (first|(simp;done)|omega|(simp;omega)))))
          exact q_again ⟨i + 1, by omega⟩ (by dsimp only; omega) (.inl rfl)
        · rw [if_neg hw] at hwl
          rw [hwl] at hp1
          repeat (first|(with_reducible first|apply X2|apply X8|apply Y2)|((with_reducible apply e_end);(simp;exact Red.rfl))|((first|((with_reducible apply O1);rfl)|((with_reducible apply O2);rfl));(simp (disch:=omega) [hw, le1, ll, -splice, hp1];exact Red.rfl);exact Red.rfl;(focus (first|(simp;done)|omega|(simp;omega)))))
          exact q_again ⟨i + 1, by omega⟩ (by dsimp only; omega) (.inl rfl)
    · obtain rfl : i = l.length := by omega
      repeat (first|(with_reducible first|apply X1|apply X2|apply X3|apply X4|apply X8|apply Y1|apply Y4|apply Y6)|((with_reducible apply e_end);(simp;exact Red.rfl))|((with_reducible apply O1);rfl;(simp (disch:=omega);exact Red.rfl);exact Red.rfl;(focus (first|(simp;done)|omega|(simp;omega))))|((with_reducible apply W3);(simp (disch:=omega);exact Red.rfl)))
      have e1 : avR (r1 (wlS s l l.length)) l.length = avR (r1 (wlF s l)) l.length := avR_congr fun j hj => by simp only [r1, wlS]; rw [if_pos (by omega)]
      rw [e1]
      have pl := (plain_r1 (wlF s l)).plain l.length
      exact q_post (v' := .tuple [.slice H.length 0 l.length 1 true, .int .i64 0]) (.inr rfl) (by simp; exact Red.rfl) (le_plain [4] _ (by simp) rfl (by simp; exact pl.o _) (by simp [sh, AV.ren, renL])) ⟨rfl, rfl⟩
end Go.Proofs
/- SlideWalls, the law's contract. -/
namespace Go.Proofs
open Go.Abs
attribute [local simp] AOp.den AOpd.ev lk cellsOf rd_new rd_new0 rd_zero rd_succ wr_new wr_new0 wr_zero wr_succ splice fillA binA scal sliceCells List.length_append argsT AV.sc scL AObj.sc resV getAll AR.get AOp.slots opdSlots opdsSlots partSlots eqAt at_new0 at_new set_new0 set_new wrap64
set_option linter.unusedSimpArgs false
set_option linter.unusedVariables false
/-- A stretch with another wall, and a track of such ones. -/
def wS (x : Str) (w : Int) : Str := ⟨x.id, x.lLo, x.lHi, x.fLo, x.fHi, x.rLo, x.rHi, x.side, w⟩
def wF (l : List Str) (w : Nat → Int) (j : Nat) : Str := wS (strAt l j) (w j)
def wLs (l : List Str) (w : Nat → Int) : List Str := listS (wF l w) l.length
def wUp (w : Nat → Int) (i : Nat) (v : Int) (j : Nat) : Int := if j = i then v else w j
def wTo (s : Sl) (l : List Str) (i j : Nat) : Int := if j < i then wlF s l j else (strAt l j).wall
theorem wLs_len (l : List Str) (w : Nat → Int) : (wLs l w).length = l.length := listS_length _ _
theorem wLs_at (l : List Str) (w : Nat → Int) {j : Nat} (h : j < l.length) : strAt (wLs l w) j = wF l w j := listS_get _ h
theorem putW (l : List Str) (w : Nat → Int) {i : Nat} (hi : i < l.length) (v : Int) : splice (avR (fun j => (wF l w j).av) l.length) (i * 9 + 8) [.int .i64 v] = avR (fun j => (wF l (wUp w i v) j).av) l.length := by
  rw [putS (wF l w) (wS (strAt l i) v) hi (by simp) (by simp [wF, wS, Str.av, splice])]
  refine avR_congr fun j _ => ?_
  by_cases hj : j = i
  · subst hj; rw [updS_i]; simp [wF, wUp]
  · rw [updS_ne _ _ hj]; simp [wF, wUp, hj]
theorem wTo_zero (s : Sl) (l : List Str) : avR (fun j => (strAt l j).av) l.length = avR (fun j => (wF l (wTo s l 0) j).av) l.length := avR_congr fun j _ => by simp [wF, wS, wTo, Str.av]
theorem wTo_up (s : Sl) (l : List Str) (i : Nat) : wUp (wTo s l i) i (wlF s l i) = wTo s l (i + 1) := by
  funext j
  simp only [wUp, wTo]
  by_cases hj : j = i
  · subst hj; simp
  · rw [if_neg hj]
    have e2 : (j < i + 1) ↔ (j < i) := by omega
    simp only [e2]
theorem wTo_end (s : Sl) (l : List Str) : avR (fun j => (wF l (wTo s l l.length) j).av) l.length = avR (fun j => (wF l (wlF s l) j).av) l.length := avR_congr fun j hj => by simp only [wF, wTo]; rw [if_pos hj]
theorem hd_wall (t : Bool) (s : Sl) (l : List Str) (w : Nat → Int) {i : Nat} (hi : i ≤ l.length) : hd t s (wLs l w) i = hd t s l i := by
  unfold hd
  refine hdG_congr (n := l.length) (fun _ _ => rfl) (fun j hj => ?_) (fun j hj => ?_) i hi
  · rw [wLs_at l w hj]; rfl
  · rw [wLs_at l w hj]; rfl
theorem wall_valid {l : List Str} (hv : validL l) {w : Nat → Int} (hw : ∀ j, j < l.length → 0 ≤ w j ∧ w j ≤ 5000) : validL (wLs l w) :=
  listS_valid hv fun j hj => ⟨by
    obtain ⟨h1, h2, h3, h4, _⟩ := str_ok hv hj
    exact ⟨h1, h2, h3, h4, hw j hj⟩, rfl⟩
def htX (s : Sl) (l : List Str) (j : Nat) : Int := htF (wiF (hd true s l) j) (strAt l j).rLo s.t2
theorem wlF_is (s : Sl) (l : List Str) (j : Nat) : wlF s l j = if (strAt l j).side = 0 then 0 else if 0 < htX s l j then htX s l j else 0 := rfl
theorem wlF_nn (s : Sl) (l : List Str) (j : Nat) : 0 ≤ wlF s l j := by
  rw [wlF_is]; split
  · omega
  · split <;> omega
theorem thr_wall (s : Sl) (l : List Str) (w : Nat → Int) {j : Nat} (hj : j < l.length) : thrB true s (wLs l w) j = decide ((strAt l j).side ≠ 0 ∧ w j < htX s l j) := by
  have e : wiF (hd true s (wLs l w)) j = wiF (hd true s l) j := by
    unfold wiF; rw [hd_wall _ _ _ _ (by omega), hd_wall _ _ _ _ (by omega)]
  unfold thrB
  rw [wLs_at l w hj, e]
  rfl
theorem safe_wall (s : Sl) (l : List Str) : knF s (wLs l (wlF s l)) = 2 := by
  have h : thN true s (wLs l (wlF s l)) = 0 := thN_zero.2 fun j hj => by
    rw [wLs_len] at hj
    rw [thr_wall s l _ hj, wlF_is]
    refine decide_eq_false fun ⟨h1, h2⟩ => ?_
    rw [if_neg h1] at h2
    split at h2 <;> omega
  unfold knF; rw [if_pos h]
theorem low_wall (s : Sl) (l : List Str) {i : Nat} (hi : i < l.length) (h0 : wlF s l i ≠ 0) : thN true s (wLs l (wUp (wlF s l) i (wlF s l i - 1))) ≠ 0 ∧ thC true s (wLs l (wUp (wlF s l) i (wlF s l i - 1))) = i := by
  have ht : thrB true s (wLs l (wUp (wlF s l) i (wlF s l i - 1))) i = true := by
    rw [thr_wall s l _ hi]
    refine decide_eq_true ?_
    simp only [wUp, if_true]
    rw [wlF_is] at h0 ⊢
    split at h0
    · omega
    · split at h0
      · rename_i h1 h2; rw [if_neg h1, if_pos h2]; exact ⟨h1, by omega⟩
      · omega
  have hn : thN true s (wLs l (wUp (wlF s l) i (wlF s l i - 1))) ≠ 0 := fun h => by
    have := thN_zero.1 h i (by rw [wLs_len]; exact hi)
    rw [ht] at this; cases this
  refine ⟨hn, ?_⟩
  obtain ⟨k1, k2, _⟩ := thC_is hn
  generalize thC true s (wLs l (wUp (wlF s l) i (wlF s l i - 1))) = k at k1 k2 ⊢
  rw [wLs_len] at k1
  rw [thr_wall s l _ k1, decide_eq_true_eq] at k2
  obtain ⟨a, b⟩ := k2
  rcases Nat.lt_trichotomy k i with h | h | h
  · simp only [wUp, if_neg (show ¬ k = i by omega)] at b
    rw [wlF_is, if_neg a] at b; split at b <;> omega
  · exact h
  · simp only [wUp, if_neg (show ¬ k = i by omega)] at b
    rw [wlF_is, if_neg a] at b; split at b <;> omega
theorem rd_wall {H : Heap} {l : List Str} {w : Nat → Int} {id : Nat} {own : Bool} (hh : H[id]? = some (.cells (avR (fun j => (wF l w j).av) l.length) own)) : rd H id 0 ((wLs l w).length * 9) = some ((wLs l w).flatMap Str.av) := by
  unfold wLs
  rw [listS_length, listS_av]; exact rd_full hh (lenS _ _)
theorem c_SafeW (H : Heap) (l : List Str) (w : Nat → Int) (id : Nat) (own ex : Bool) (s : Sl) (hh : H[id]? = some (.cells (avR (fun j => (wF l w j).av) l.length) own)) (hv : validL (wLs l w)) (hk : s.ok) :
    ACalls Try.prog F.slide_Safe [.agg [.slice id 0 l.length 9 ex], .agg s.av] H (fun v h' => v = .tuple [.int .u8 (knF s (wLs l w)), .int .i64 0] ∧ h' = H) := by
  have := c_Safe H (wLs l w) id 0 ex s (rd_wall hh) hv hk
  rw [wLs_len] at this; exact this
theorem c_NamesW (H : Heap) (l : List Str) (w : Nat → Int) (id : Nat) (own ex : Bool) (s : Sl) (hh : H[id]? = some (.cells (avR (fun j => (wF l w j).av) l.length) own)) (hv : validL (wLs l w)) (hk : s.ok) (h0 : thN true s (wLs l w) ≠ 0) :
    ACalls Try.prog F.slide_Names [.agg [.slice id 0 l.length 9 ex], .agg s.av] H (fun v h' => v = .tuple [.int .i64 (thC true s (wLs l w)), .int .i64 (dnV (nmR s (wLs l w))), .int .i64 0] ∧ h' = H) := by
  have := c_Names H (wLs l w) id 0 ex s (rd_wall hh) hv hk
  rw [wLs_len] at this
  refine this.mono ?_
  rintro _ _ ⟨rfl, h | h⟩
  · exact absurd h.1 h0
  · exact ⟨h.2, rfl⟩
theorem c_TwinW (H : Heap) (l : List Str) (w : Nat → Int) (id : Nat) (own ex : Bool) (hh : H[id]? = some (.cells (avR (fun j => (wF l w j).av) l.length) own)) (hn : l.length ≤ 1000) :
    ACalls Try.prog F.ref01_Twin [.agg [.slice id 0 l.length 9 ex]] H (fun v h' => v = .agg [.slice H.length 0 l.length 9 false] ∧ h' = H ++ [.cells (avR (fun j => (wF l w j).av) l.length) true]) := by
  have := c_Twin H (wLs l w) id 0 ex (rd_wall hh) (by rw [wLs_len]; exact hn)
  rw [wLs_len] at this
  unfold wLs at this
  rw [listS_av] at this
  exact this

set_option maxHeartbeats 8000000 in
theorem c_lawSW (H : Heap) (l : List Str) (s : Sl) (id off : Nat) (ex : Bool) (hs : rd H id off (l.length * 9) = some (l.flatMap Str.av)) (hc : 0 ≤ s.c ∧ s.c ≤ 255) :
    ACalls Try.prog F.law03_SlideWalls [.agg [.slice id off l.length 9 ex], .agg s.av] H (fun v _ => v = .bool true) := by
  have hid := rd_lt hs
  have ca : ∀ H, ACalls Try.prog F.law03_alive [] H (fun v h => v = .bool true ∧ h = H) := Try.true40
  have cr := fun H' h => c_sready H' l id off ex s h hc
  have cw := fun hv hk H' h => c_Walls H' l id off ex s h hv hk
  have csf := fun hk H' w id own ex hh hv => c_SafeW H' l w id own ex s hh hv hk
  have cnm := fun hk H' w id own ex hh hv h0 => c_NamesW H' l w id own ex s hh hv hk h0
  have ct := fun H' h hn => c_Twin H' l id off ex h hn
  simp only [Sl.av] at cr csf cnm cw ⊢
  refine acalls_of ok_law03_SlideWalls rfl fun hcl => ?_
  unfold ac_law03_SlideWalls
  simp only [argsT, Nat.zero_add, Nat.reduceAdd]
  repeat (first|(with_reducible first|apply X1|apply X2|apply X8)|((with_reducible apply e_end);(simp;exact Red.rfl))|((with_reducible apply O1);rfl;(simp (disch:=omega);exact Red.rfl);exact Red.rfl;(focus (first|(simp;done)|omega|(simp;omega)))))
  (with_reducible apply e_call); (simp; exact Red.rfl); exact ca _
  rintro _ _ ⟨rfl, rfl⟩
  repeat (first|(with_reducible first|apply X1|apply X2|apply X8)|((with_reducible apply e_end);(simp;exact Red.rfl))|((with_reducible apply O1);rfl;(simp (disch:=omega);exact Red.rfl);exact Red.rfl;(focus (first|(simp;done)|omega|(simp;omega)))))
  (with_reducible apply e_call); (simp; exact Red.rfl); exact cr _ (by rw [rd_old _ hid]; exact hs)
  rintro _ _ ⟨rfl, b, rfl, hbv⟩
  cases b with
  | false =>
    repeat (first|(with_reducible first|apply X1|apply X2|apply X3|apply X8|apply X9)|((with_reducible apply e_end);(simp;exact Red.rfl))|((with_reducible apply O1);rfl;(simp (disch:=omega);exact Red.rfl);exact Red.rfl;(focus (first|(simp;done)|omega|(simp;omega))))|((with_reducible apply Z9);(simp (disch:=omega);exact Red.rfl))|((with_reducible apply Z2);(simp (disch:=omega);exact Red.rfl)))
    refine q_drop (.inr rfl) (by simp; exact Red.rfl) (by simp) rfl
  | true =>
    obtain ⟨hv, hk⟩ := hbv.1 rfl
    have h12 := hv.1
    repeat (first|(with_reducible first|apply X1|apply X2|apply X5|apply X8)|((with_reducible apply e_end);(simp;exact Red.rfl))|((with_reducible apply O1);rfl;(simp (disch:=omega);exact Red.rfl);exact Red.rfl;(focus (first|(simp;done)|omega|(simp;omega))))|((with_reducible apply Z7);(simp (disch:=omega);exact Red.rfl))|((with_reducible apply W3);(simp (disch:=omega);exact Red.rfl)))
    (with_reducible apply e_call); (simp; exact Red.rfl); exact cw hv hk _ (by rw [rd_old _ hid]; exact hs)
    rintro _ _ ⟨rfl, rfl⟩
    repeat (first|(with_reducible first|apply X1|apply X2|apply X5|apply X8)|((with_reducible apply e_end);(simp;exact Red.rfl))|((with_reducible apply O1);rfl;(simp (disch:=omega);exact Red.rfl);exact Red.rfl;(focus (first|(simp;done)|omega|(simp;omega))))|((with_reducible apply Z7);(simp (disch:=omega);exact Red.rfl))|((with_reducible apply W3);(simp (disch:=omega);exact Red.rfl)))
    (with_reducible apply e_call); (simp; exact Red.rfl); exact ct _ (by simp only [List.append_assoc, rd_old _ hid]; exact hs) (by omega)
    rintro _ _ ⟨rfl, rfl⟩
    repeat (first|(with_reducible first|apply X1|apply X2|apply X6|apply X8)|((with_reducible apply e_end);(simp;exact Red.rfl))|((first|((with_reducible apply O1);rfl)|((with_reducible apply O2);rfl));(simp (disch:=omega);exact Red.rfl);exact Red.rfl;(focus (first|(simp;done)|omega|(simp;omega)))))
    rw [flat_eq, wTo_zero s l]
    have wl := (plain_r1 (wlF s l)).length l.length
    have plW := (plain_r1 (wlF s l)).plain l.length
    refine e_loop (ι := { i : Nat // i ≤ l.length ∧ ∀ j, j < i → wlF s l j ≤ 5000 })
      (fun i => [(2, .ptr H.length 0), (3, .ptr (H.length + 1) 0), (5, .bool true), (6, .slice (H.length + 2) 0 l.length 1 true), (8, .ptr (H.length + 4) 0), (47, .slice (H.length + 2) 0 l.length 1 true), (48, .int .i64 l.length), (49, .int .i64 i.1)])
      (fun i => H ++ [.cells [.slice id off l.length 9 ex] true, .cells [.int .u8 s.c, .int .i64 s.s1, .int .i64 s.s2, .int .i64 s.r1, .int .i64 s.r2, .int .i64 s.d1, .int .i64 s.d2, .int .i64 s.w1, .int .i64 s.w2, .int .i64 s.t1, .int .i64 s.t2] true, .cells (avR (r1 (wlF s l)) l.length) true, .cells (avR (fun j => (wF l (wTo s l i.1) j).av) l.length) true, .cells [.slice (H.length + 3) 0 l.length 9 false] true]) (fun i => l.length - i.1) ⟨0, by simp, by simp⟩ ?_ ?_
    · exact .inl rfl
    · rintro ⟨i, hi, hmx⟩
      dsimp only
      by_cases hlt : i < l.length
      · have hlt2 : (i : Int) < l.length := by omega
        have le1 : i + 1 ≤ l.length := hlt
        have q1 : ((avR (r1 (wlF s l)) l.length).drop i).take 1 = [.int .i64 (wlF s l i)] := by
          simpa [r1] using (plain_r1 (wlF s l)).part (n := l.length) (i := i) (c := 0) (m := 1) hlt (by omega)
        have hx := rd_row Str.av_length hs hlt
        have hst := strAt_eq hlt
        rw [← hst] at hx
        have hw0 := wlF_nn s l i
        have hws : (strAt l i).side = 0 → wlF s l i = 0 := fun h => by rw [wlF_is, if_pos h]
        have hput := putW l (wTo s l i) hlt (wlF s l i)
        rw [wTo_up] at hput
        have hx2 : rd H id (off + i * 9 + 7) 1 = some [.int .u8 (strAt l i).side] := by
          have := rd_sub hx (show 7 + 1 ≤ 9 by omega); simpa [Str.av] using this
        have le2 : i * 9 + 8 + 1 ≤ l.length * 9 := by omega
        have le2' : i * 9 + 9 ≤ l.length * 9 := by omega
        have hm : wlF s l i ≤ 5000 → ∀ j, j < i + 1 → wlF s l j ≤ 5000 := fun h j hj => by
          rcases Nat.lt_or_ge j i with h1 | h1
          · exact hmx j h1
          · obtain rfl : j = i := by omega
            exact h
        generalize (strAt l i).side = sd at hx2 hws
        generalize hW : wlF s l i = W at q1 hw0 hws hput hm
        have hnn : ¬ W < 0 := by omega
        by_cases hbig : 5000 < W
        · by_cases hsd : sd = 0
          · have := hws hsd; omega
          · repeat (first|(with_reducible first|apply X1|apply X2|apply X3|apply X5|apply X6|apply X8|apply X9|apply Y3|apply Y5)|((with_reducible apply e_end);(simp;exact Red.rfl))|((with_reducible apply O1);rfl;(simp (disch:=omega) [hlt, hlt2, le1, q1, wl, rd_old _ hid, hx2, hnn, hsd, hbig];exact Red.rfl);exact Red.rfl;(focus (first|(simp;done)|omega|(simp;omega))))|((with_reducible first|apply Z7|apply Z9);(simp (disch:=omega) [hlt, hlt2, le1, q1, wl, rd_old _ hid, hx2, hnn, hsd, hbig];exact Red.rfl))|((with_reducible apply Z1);(simp (disch:=omega) [hlt, hlt2, le1, q1, wl, rd_old _ hid, hx2, hnn, hsd, hbig];exact Red.rfl))|((with_reducible apply W3);(simp (disch:=omega) [hlt, hlt2, le1, q1, wl, rd_old _ hid, hx2, hnn, hsd, hbig];exact Red.rfl)))
            refine q_drop (.inr rfl) (by simp; exact Red.rfl) (by simp) rfl
        · by_cases hsd : sd = 0
          · have hW0 : W = 0 := hws hsd
            subst hW0
            repeat (first|(with_reducible first|apply X1|apply X2|apply X5|apply X6|apply X8|apply Y2)|((with_reducible apply e_end);(simp;exact Red.rfl))|((first|((with_reducible apply O1);rfl)|((with_reducible apply O2);rfl));(simp (disch:=omega) [hlt, hlt2, le1, q1, wl, rd_old _ hid, hx2, hsd, -splice, lenS, le2, le2', hput];exact Red.rfl);exact Red.rfl;(focus (first|(simp;done)|omega|(simp;omega))))|((with_reducible first|apply Z7|apply Z9);(simp (disch:=omega) [hlt, hlt2, le1, q1, wl, rd_old _ hid, hx2, hsd, -splice, lenS, le2, le2', hput];exact Red.rfl))|((with_reducible apply W3);(simp (disch:=omega) [hlt, hlt2, le1, q1, wl, rd_old _ hid, hx2, hsd, -splice, lenS, le2, le2', hput];exact Red.rfl)))
            refine q_again ⟨i + 1, by omega, hm (by omega)⟩ (by dsimp only; omega) (.inl rfl)
          · repeat (first|(with_reducible first|apply X1|apply X2|apply X5|apply X6|apply X8|apply Y2)|((with_reducible apply e_end);(simp;exact Red.rfl))|((first|((with_reducible apply O1);rfl)|((with_reducible apply O2);rfl));(simp (disch:=omega) [hlt, hlt2, le1, q1, wl, rd_old _ hid, hx2, hnn, hsd, hbig, -splice, lenS, le2, le2', hput];exact Red.rfl);exact Red.rfl;(focus (first|(simp;done)|omega|(simp;omega))))|((with_reducible first|apply Z7|apply Z9);(simp (disch:=omega) [hlt, hlt2, le1, q1, wl, rd_old _ hid, hx2, hnn, hsd, hbig, -splice, lenS, le2, le2', hput];exact Red.rfl))|((with_reducible apply Z1);(simp (disch:=omega) [hlt, hlt2, le1, q1, wl, rd_old _ hid, hx2, hnn, hsd, hbig, -splice, lenS, le2, le2', hput];exact Red.rfl))|((with_reducible apply W3);(simp (disch:=omega) [hlt, hlt2, le1, q1, wl, rd_old _ hid, hx2, hnn, hsd, hbig, -splice, lenS, le2, le2', hput];exact Red.rfl)))
            refine q_again ⟨i + 1, by omega, hm (by omega)⟩ (by dsimp only; omega) (.inl rfl)
      · obtain rfl : i = l.length := by omega
        clear hlt hi
        rw [wTo_end]
        have hvw := wall_valid hv (w := wlF s l) fun j hj => ⟨wlF_nn s l j, hmx j hj⟩
        repeat (first|(with_reducible first|apply X1|apply X2|apply X4|apply X8|apply Y1|apply Y4|apply Y6)|((with_reducible apply e_end);(simp;exact Red.rfl))|((with_reducible apply O1);rfl;(simp (disch:=omega);exact Red.rfl);exact Red.rfl;(focus (first|(simp;done)|omega|(simp;omega))))|((with_reducible apply W3);(simp (disch:=omega);exact Red.rfl)))
        (with_reducible apply e_call); (simp; exact Red.rfl); exact csf hk _ (wlF s l) (H.length + 3) true false (by simp) hvw
        rintro _ _ ⟨rfl, rfl⟩
        rw [safe_wall]
        repeat (first|(with_reducible first|apply X1|apply X2|apply X5|apply X6|apply X8)|((with_reducible apply e_end);(simp;exact Red.rfl))|((with_reducible apply O1);rfl;(simp (disch:=omega);exact Red.rfl);exact Red.rfl;(focus (first|(simp;done)|omega|(simp;omega))))|((with_reducible apply Z7);(simp (disch:=omega);exact Red.rfl))|((with_reducible apply W3);(simp (disch:=omega);exact Red.rfl)))
        have plB := (plain_fun (wF l (wlF s l))).plain l.length
        refine e_loop (ι := { i : Nat // i ≤ l.length })
          (fun i => [(3, .ptr (H.length + 1) 0), (5, .bool true), (8, .ptr (H.length + 4) 0), (91, .slice (H.length + 2) 0 l.length 1 true), (92, .int .i64 l.length), (93, .int .i64 i.1)])
          (fun _ => H ++ [.cells [.slice id off l.length 9 ex] true, .cells [.int .u8 s.c, .int .i64 s.s1, .int .i64 s.s2, .int .i64 s.r1, .int .i64 s.r2, .int .i64 s.d1, .int .i64 s.d2, .int .i64 s.w1, .int .i64 s.w2, .int .i64 s.t1, .int .i64 s.t2] true, .cells (avR (r1 (wlF s l)) l.length) true, .cells (avR (fun j => (wF l (wlF s l) j).av) l.length) true, .cells [.slice (H.length + 3) 0 l.length 9 false] true]) (fun i => l.length - i.1) ⟨0, by simp⟩ ?_ ?_
        · exact .inl rfl
        · rintro ⟨i, hi⟩
          dsimp only
          by_cases hlt : i < l.length
          · have hlt2 : (i : Int) < l.length := by omega
            have le1 : i + 1 ≤ l.length := hlt
            have q1 : ((avR (r1 (wlF s l)) l.length).drop i).take 1 = [.int .i64 (wlF s l i)] := by
              simpa [r1] using (plain_r1 (wlF s l)).part (n := l.length) (i := i) (c := 0) (m := 1) hlt (by omega)
            have hw0 := wlF_nn s l i
            have hput := putW l (wlF s l) hlt (wlF s l i - 1)
            have hlow := low_wall s l hlt
            have hb := hmx i hlt
            have hvl := fun h : wlF s l i ≠ 0 => wall_valid hv (w := wUp (wlF s l) i (wlF s l i - 1)) fun j hj => by
              have h1 := wlF_nn s l j
              have h2 := hmx j hj
              simp only [wUp]; split <;> omega
            have le2 : i * 9 + 8 + 1 ≤ l.length * 9 := by omega
            have le2' : i * 9 + 9 ≤ l.length * 9 := by omega
            generalize hW : wlF s l i = W at q1 hw0 hput hlow hb hvl
            by_cases hz : W = 0
            · subst hz
              repeat (first|(with_reducible first|apply X1|apply X2|apply X4|apply X5|apply X6|apply X8|apply Y1|apply Y4)|((with_reducible apply e_end);(simp;exact Red.rfl))|((with_reducible apply O1);rfl;(simp (disch:=omega) [hlt, hlt2, le1, q1, wl];exact Red.rfl);exact Red.rfl;(focus (first|(simp;done)|omega|(simp;omega))))|((with_reducible apply Z9);(simp (disch:=omega) [hlt, hlt2, le1, q1, wl];exact Red.rfl)))
              refine q_again ⟨i + 1, by omega⟩ (by dsimp only; omega) (.inl rfl)
            · repeat (first|(with_reducible first|apply X1|apply X2|apply X5|apply X6|apply X8)|((with_reducible apply e_end);(simp;exact Red.rfl))|((with_reducible apply O1);rfl;(simp (disch:=omega) [hlt, hlt2, le1, q1, wl, hz];exact Red.rfl);exact Red.rfl;(focus (first|(simp;done)|omega|(simp;omega))))|((with_reducible apply Z9);(simp (disch:=omega) [hlt, hlt2, le1, q1, wl, hz];exact Red.rfl))|((with_reducible apply W3);(simp (disch:=omega) [hlt, hlt2, le1, q1, wl, hz];exact Red.rfl)))
              (with_reducible apply e_call); (simp; exact Red.rfl); exact c_TwinW _ l (wlF s l) (H.length + 3) true false (by simp) (by omega)
              rintro _ _ ⟨rfl, rfl⟩
              repeat (first|(with_reducible first|apply X1|apply X2|apply X8)|((with_reducible apply e_end);(simp;exact Red.rfl))|((first|((with_reducible apply O1);rfl)|((with_reducible apply O2);rfl));(simp (disch:=omega) [hlt, hlt2, -splice, lenS, le2, le2', hput];exact Red.rfl);exact Red.rfl;(focus (first|(simp;done)|omega|(simp;omega)))))
              (with_reducible apply e_call); (simp; exact Red.rfl); exact cnm hk _ (wUp (wlF s l) i (W - 1)) (H.length + 5) true false (by simp) (hvl hz) (hlow hz).1
              rintro _ _ ⟨rfl, rfl⟩
              rw [(hlow hz).2]
              repeat (first|(with_reducible first|apply X1|apply X2|apply X5|apply X8|apply Y2)|((with_reducible apply e_end);(simp;exact Red.rfl))|((with_reducible apply O1);rfl;(simp (disch:=omega);exact Red.rfl);exact Red.rfl;(focus (first|(simp;done)|omega|(simp;omega))))|((with_reducible apply Z7);(simp (disch:=omega);exact Red.rfl))|((with_reducible apply W3);(simp (disch:=omega);exact Red.rfl)))
              refine q_again ⟨i + 1, by omega⟩ (by dsimp only; omega) (.inr ?_)
              exact le_take (G := [_, _, _, _, _]) (G2 := [_, _]) (by simp [AObj.sc, plW.sc, plB.sc] <;> omega) (by simp [Red, hid] <;> omega)
          · obtain rfl : i = l.length := by omega
            repeat (first|(with_reducible first|apply X1|apply X2|apply X3|apply X4|apply X8|apply Y1|apply Y4|apply Y6)|((with_reducible apply e_end);(simp;exact Red.rfl))|((with_reducible apply O1);rfl;(simp (disch:=omega);exact Red.rfl);exact Red.rfl;(focus (first|(simp;done)|omega|(simp;omega))))|((with_reducible apply W3);(simp (disch:=omega);exact Red.rfl)))
            refine q_drop (.inr rfl) (by simp; exact Red.rfl) (by simp) rfl
end Go.Proofs
