/- Several texts as one. -/
import Derived.Test.YtdjneegacogklaaTA
import Derived.Test.YtdjneegacogklaaSC
import Derived.Test.YtdjneegacogklaaRunSlideAlive
/- Curves that throw a sled. -/
namespace Go.Proofs
open Go.Abs
attribute [local simp] AOp.den AOpd.ev lk cellsOf rd_new rd_new0 rd_zero rd_succ wr_new wr_new0 wr_zero wr_succ splice fillA binA scal sliceCells List.length_append argsT AV.sc scL AObj.sc resV getAll AR.get AOp.slots opdSlots opdsSlots partSlots eqAt at_new0 at_new set_new0 set_new wrap64
set_option linter.unusedSimpArgs false
set_option linter.unusedVariables false
def mpV (w : Nat → Int) (xs : List Nat) : List (AV × AV) := xs.map fun (j : Nat) => (.int .i64 (j : Int), .int .i64 (w j))
def moX (w : Nat → Int) (xs : List Nat) (c : Nat) : AObj := .other (.map (mpV w xs) xs c)
theorem keyEq_nat (a b : Nat) : keyEq (.one .int) (.int .i64 (a : Int)) (.int .i64 (b : Int)) = some (decide (a = b)) := by
  have e : ((a : Int) = b) = (a = b) := propext Int.ofNat_inj
  simp only [keyEq, eqCell, if_true, e]
theorem findV_not (w : Nat → Int) (k : Nat) : ∀ xs : List Nat, ¬ k ∈ xs → findA (.one .int) (.int .i64 (k : Int)) (mpV w xs) = some none
  | [], _ => rfl
  | a :: r, h => by
    have h1 : ¬ k = a := fun e => h (by simp [e])
    have h2 := findV_not w k r (fun e => h (List.mem_cons_of_mem _ e))
    have e : mpV w (a :: r) = (.int .i64 (a : Int), .int .i64 (w a)) :: mpV w r := rfl
    rw [e]
    simp only [findA, keyEq_nat, h1, decide_false, h2]
theorem findV_mem (w : Nat → Int) (k : Nat) : ∀ xs : List Nat, k ∈ xs → ∃ p : Nat, xs[p]? = some k ∧ findA (.one .int) (.int .i64 (k : Int)) (mpV w xs) = some (some p)
  | [], h => by cases h
  | a :: r, h => by
    have e : mpV w (a :: r) = (.int .i64 (a : Int), .int .i64 (w a)) :: mpV w r := rfl
    by_cases h1 : k = a
    · subst h1
      exact ⟨0, rfl, by rw [e]; simp only [findA, keyEq_nat, decide_true]⟩
    · have h2 : k ∈ r := by
        rcases List.mem_cons.1 h with h | h
        · exact absurd h h1
        · exact h
      obtain ⟨p, q1, q2⟩ := findV_mem w k r h2
      exact ⟨p + 1, by simpa using q1, by rw [e]; simp only [findA, keyEq_nat, h1, decide_false, q2]⟩
theorem mpV_get (w : Nat → Int) {xs : List Nat} {p k : Nat} (h : xs[p]? = some k) : (mpV w xs)[p]? = some (.int .i64 (k : Int), .int .i64 (w k)) := by
  simp [mpV, h]
theorem erase_map {α β : Type} (f : α → β) : ∀ (xs : List α) (p : Nat), (xs.map f).eraseIdx p = (xs.eraseIdx p).map f
  | [], _ => rfl
  | _ :: _, 0 => rfl
  | a :: xs, p + 1 => by simp only [List.map_cons, List.eraseIdx_cons_succ, erase_map f xs p]
theorem erase_nd {k : Nat} : ∀ {xs : List Nat} {p : Nat}, xs.Nodup → xs[p]? = some k → xs.eraseIdx p = xs.filter fun j => decide (j ≠ k)
  | [], p, _, h => by simp at h
  | a :: r, 0, hd, h => by
    simp at h; subst h
    have h1 := List.nodup_cons.1 hd
    rw [List.eraseIdx_cons_zero, List.filter_cons_of_neg (by simp)]
    exact (List.filter_eq_self.2 fun x hx => by
      have : x ≠ a := by rintro rfl; exact h1.1 hx
      simpa using this).symm
  | a :: r, p + 1, hd, h => by
    have h1 := List.nodup_cons.1 hd
    have hk : k ∈ r := List.mem_of_getElem? (by simpa using h)
    have hne : a ≠ k := by rintro rfl; exact h1.1 hk
    rw [List.eraseIdx_cons_succ, List.filter_cons_of_pos (by simpa using hne), erase_nd h1.2 (by simpa using h)]
theorem den_getV {m i : AOpd} {ev : AOpd → AV} {h : Heap} {id k c : Nat} {w : Nat → Int} {xs : List Nat} (hm : ev m = .map id) (hi : ev i = .int .i64 (k : Int)) (hh : h[id]? = some (moX w xs c)) (hk : k ∈ xs) :
    (AOp.mapGet false (.int .i64 0) (.one .int) m i).den ev h = .ok True (.int .i64 (w k)) h := by
  obtain ⟨p, q1, q2⟩ := findV_mem w k xs hk
  simp only [AOp.den, AOp.fx, hm, hi, keyEq_nat, mapAt, hh, moX, Option.isSome_some, if_true, q2, mpV_get w q1]
  simp
theorem den_putV {m i x : AOpd} {ev : AOpd → AV} {h : Heap} {id k c : Nat} {w : Nat → Int} {xs : List Nat} (hm : ev m = .map id) (hi : ev i = .int .i64 (k : Int)) (hx : ev x = .int .i64 (w k)) (hh : h[id]? = some (moX w xs c)) (hk : ¬ k ∈ xs) (hc : c = k) :
    (AOp.mapPut (.one .int) m i x).den ev h = .ok True (.tuple []) (h.set id (moX w (xs ++ [k]) (c + 1))) := by
  simp only [AOp.den, AOp.fx, hm, hi, hx, keyEq_nat, hh, moX, Option.isSome_some, if_true, findV_not w k xs hk]
  simp [mpV, hc]
theorem den_delV {m i : AOpd} {ev : AOpd → AV} {h : Heap} {id k c : Nat} {w : Nat → Int} {xs : List Nat} (hm : ev m = .map id) (hi : ev i = .int .i64 (k : Int)) (hh : h[id]? = some (moX w xs c)) (hk : k ∈ xs) (hd : xs.Nodup) :
    (AOp.mapDel (.one .int) m i).den ev h = .ok True (.tuple []) (h.set id (moX w (xs.filter fun j => decide (j ≠ k)) c)) := by
  obtain ⟨p, q1, q2⟩ := findV_mem w k xs hk
  have e : (mpV w xs).eraseIdx p = mpV w (xs.filter fun j => decide (j ≠ k)) := by
    rw [← erase_nd hd q1]; simp only [mpV, erase_map]
  simp only [AOp.den, AOp.fx, hm, hi, keyEq_nat, hh, moX, Option.isSome_some, if_true, q2, e, erase_nd hd q1]
/-- Whether a curve throws a sled. -/
def thrB (t : Bool) (s : Sl) (l : List Str) (i : Nat) : Bool := decide ((strAt l i).side ≠ 0 ∧ (strAt l i).wall < htF (wiF (hd t s l) i) (dn t (strAt l i).rLo (strAt l i).rHi) (up t s.t1 s.t2))
/-- All curves that do. -/
def thL (t : Bool) (s : Sl) (l : List Str) : List Nat := (List.range l.length).filter (thrB t s l)
/-- What is left of all stretches when some were looked at. -/
def leL (th : Nat → Bool) (n i : Nat) : List Nat := (List.range n).filter fun j => decide (i ≤ j) || th j
theorem le_zero (th : Nat → Bool) (n : Nat) : leL th n 0 = List.range n := List.filter_eq_self.2 fun _ _ => by simp
theorem le_end (th : Nat → Bool) (n : Nat) : leL th n n = (List.range n).filter th := List.filter_congr fun j hj => by
  have := List.mem_range.1 hj
  simp [show ¬ n ≤ j by omega]
theorem le_keepT {th : Nat → Bool} {n i : Nat} (h : th i = true) : leL th n (i + 1) = leL th n i := List.filter_congr fun j _ => by
  by_cases hj : j = i
  · subst hj; simp [h]
  · have : (i + 1 ≤ j) = (i ≤ j) := propext (by omega)
    simp [this]
theorem le_dropF {th : Nat → Bool} {n i : Nat} (h : th i = false) : (leL th n i).filter (fun j => decide (j ≠ i)) = leL th n (i + 1) := by
  unfold leL
  rw [List.filter_filter]
  refine List.filter_congr fun j _ => ?_
  by_cases hj : j = i
  · subst hj; simp [h]
  · have : (i + 1 ≤ j) = (i ≤ j) := propext (by omega)
    simp [this, hj]
theorem le_mem {th : Nat → Bool} {n i : Nat} (h : i < n) : i ∈ leL th n i := List.mem_filter.2 ⟨List.mem_range.2 h, by simp⟩
theorem le_nd (th : Nat → Bool) (n i : Nat) : (leL th n i).Nodup := List.Pairwise.filter _ List.nodup_range

theorem c_throws (t : Bool) (H : Heap) (s : Sl) (l : List Str) (id off : Nat) (ex : Bool) (hs : rd H id off (l.length * 9) = some (l.flatMap Str.av)) (hv : validL l) (hk : s.ok) (i : Nat) (hi : i < l.length) (x : Int) (hx : 0 ≤ x ∧ x ≤ 260000) (hc : (strAt l i).side ≠ 0) :
    ACalls Try.prog F.slide_truth_throws [.agg (trv t s (.slice id off l.length 9 ex)), .int .i64 i, .int .i64 x] H (fun v h' => v = .bool (decide ((strAt l i).wall < htF x (dn t (strAt l i).rLo (strAt l i).rHi) (up t s.t1 s.t2))) ∧ h' = H) := by
  have hid := rd_lt hs
  have chh := fun H' h => c_height t H' s l id off ex h hk i hi x hx (curve_rad hv hi hc)
  have hrow := rd_row Str.av_length hs hi
  have hst := strAt_eq hi
  have hi2 : (i : Int) < l.length := by omega
  generalize htF x (dn t (strAt l i).rLo (strAt l i).rHi) (up t s.t1 s.t2) = ht at chh ⊢
  rw [hst]
  generalize hsi : l[i] = st at hrow
  obtain ⟨b1, b2, b3, b4, b5, b6, b7, b8, b9⟩ := st
  simp only [Str.av] at hrow
  have hx2 : rd H id (off + i * 9 + 8) 1 = some [.int .i64 b9] := by simpa using rd_sub hrow (show 8 + 1 ≤ 9 by omega)
  simp only [trv, Sl.av, List.cons_append, List.nil_append] at chh ⊢
  refine acalls_of ok_slide_truth_throws rfl fun hcl => ?_
  unfold ac_slide_truth_throws
  simp only [argsT, Nat.zero_add, Nat.reduceAdd]
  repeat (first|(with_reducible first|apply X1|apply X2|apply X8|apply Y9)|((with_reducible apply e_end);(simp;exact Red.rfl))|((first|((with_reducible apply O1);rfl)|((with_reducible apply P1);rfl)|((with_reducible apply P2);rfl));(simp (disch:=omega);exact Red.rfl);exact Red.rfl;(focus (first|(simp;done)|omega|(simp;omega)))))
  (with_reducible apply d_call); (simp; exact Red.rfl); exact chh _ (by rw [rd_old _ hid]; exact hs); (focus (first | (simp; done) | (simp; omega)))
  repeat (first|(with_reducible first|apply X3|apply X8)|((with_reducible apply d_end);(simp;exact Red.rfl))|((with_reducible apply P1);rfl;(simp (disch:=omega) [rd_old _ hid, hx2, hi, hi2];exact Red.rfl);exact Red.rfl;(focus (first|(simp;done)|omega|(simp;omega))))|((with_reducible apply P6);rfl;(simp (disch:=omega) [rd_old _ hid, hx2, hi, hi2];exact Red.rfl);exact Red.rfl;(focus (first|(simp [pr];done)|(simp [pr];omega)))))
  refine q_drop (.inr rfl) (by simp; exact Red.rfl) (by simp) ⟨rfl, rfl⟩
end Go.Proofs
/- Who may be thrown. -/
namespace Go.Proofs
open Go.Abs
attribute [local simp] AOp.den AOpd.ev lk cellsOf rd_new rd_new0 rd_zero rd_succ wr_new wr_new0 wr_zero wr_succ splice fillA binA scal sliceCells List.length_append argsT AV.sc scL AObj.sc resV getAll AR.get AOp.slots opdSlots opdsSlots partSlots eqAt at_new0 at_new set_new0 set_new wrap64
set_option linter.unusedSimpArgs false
set_option linter.unusedVariables false
def thK (t : Bool) (s : Sl) (l : List Str) (p : Nat) : Int := ((thL t s l).getD p 0 : Nat)
set_option maxHeartbeats 2000000 in
theorem c_throwing (t : Bool) (H : Heap) (s : Sl) (l : List Str) (id off : Nat) (ex : Bool) (hs : rd H id off (l.length * 9) = some (l.flatMap Str.av)) (hv : validL l) (hk : s.ok) :
    ACalls Try.prog F.slide_truth_throwing [.agg (trv t s (.slice id off l.length 9 ex))] H (fun v h' => v = lV H (thL t s l).length ∧ h' = H ++ lO (thL t s l).length (thK t s l)) := by
  have hid := rd_lt hs
  have h12 := hv.1
  have cw := fun H' h => c_swithin t H' s l id off ex h hv hk
  have cth := fun i hi hc H' h x hx => c_throws t H' s l id off ex h hv hk i hi x hx hc
  have wl := (plain_r1 (wiF (hd t s l))).length l.length
  have plW := (plain_r1 (wiF (hd t s l))).plain l.length
  simp only [trv, Sl.av, List.cons_append, List.nil_append] at cw cth ⊢
  refine acalls_of ok_slide_truth_throwing rfl fun hcl => ?_
  unfold ac_slide_truth_throwing
  simp only [argsT, Nat.zero_add, Nat.reduceAdd]
  repeat (first|(with_reducible first|apply X1|apply X2|apply X8)|((with_reducible apply e_end);(simp;exact Red.rfl))|((with_reducible apply O1);rfl;(simp (disch:=omega);exact Red.rfl);exact Red.rfl;(focus (first|(simp;done)|omega|(simp;omega)))))
  (with_reducible apply e_call); (simp; exact Red.rfl); exact cw _ (by rw [rd_old _ hid]; exact hs)
  rintro _ _ ⟨rfl, rfl⟩
  repeat (first|(with_reducible first|apply X6|apply X8)|((with_reducible apply e_end);(simp;exact Red.rfl))|((with_reducible apply O1);rfl;(simp (disch:=omega);exact Red.rfl);exact Red.rfl;(focus (first|(simp;done)|omega|(simp;omega)))))
  refine e_loop (ι := { i : Nat // i ≤ l.length })
    (fun i => [(1, .ptr H.length 0), (3, .map (H.length + 1)), (9, .slice (H.length + 2) 0 l.length 1 true), (10, .int .i64 l.length), (11, .int .i64 i.1)])
    (fun i => H ++ [.cells [.int .u8 s.c, .int .i64 s.s1, .int .i64 s.s2, .int .i64 s.r1, .int .i64 s.r2, .int .i64 s.d1, .int .i64 s.d2, .int .i64 s.w1, .int .i64 s.w2, .int .i64 s.t1, .int .i64 s.t2, .slice id off l.length 9 ex, .fn (.func (moF t)) [] [], .fn (.func (leF t)) [] []] true, moX (wiF (hd t s l)) (List.range i.1) i.1, .cells (avR (r1 (wiF (hd t s l))) l.length) true]) (fun i => l.length - i.1) ⟨0, by simp⟩ ?_ ?_
  · exact .inl rfl
  · rintro ⟨i, hi⟩
    dsimp only
    by_cases hlt : i < l.length
    · have hlt2 : (i : Int) < l.length := by omega
      have le1 : i + 1 ≤ l.length := hlt
      have q1 : ((avR (r1 (wiF (hd t s l))) l.length).drop i).take 1 = [.int .i64 (wiF (hd t s l) i)] := by
        simpa [r1] using (plain_r1 (wiF (hd t s l))).part (n := l.length) (i := i) (c := 0) (m := 1) hlt (by omega)
      repeat (first|(with_reducible first|apply X1|apply X2|apply X5|apply X6|apply X8)|((with_reducible apply e_end);(simp;exact Red.rfl))|((with_reducible apply O1);rfl;(simp (disch:=omega) [hlt, hlt2, le1, q1, wl];exact Red.rfl);exact Red.rfl;(focus (first|(simp;done)|omega|(simp;omega))))|((with_reducible apply Z9);(simp (disch:=omega) [hlt, hlt2, le1, q1, wl];exact Red.rfl)))
      refine e_do (op := .mapPut _ _ _ _) rfl (den_putV (k := i) (w := wiF (hd t s l)) (xs := List.range i) (c := i) rfl rfl rfl (by rw [at_new]; rfl) (by simp) rfl) Red.rfl trivial ?_
      rw [set_new, ← List.range_succ]
      repeat (first|(with_reducible first|apply X2|apply X8|apply Y2)|((with_reducible apply e_end);(simp;exact Red.rfl))|((with_reducible apply O1);rfl;(simp (disch:=omega);exact Red.rfl);exact Red.rfl;(focus (first|(simp;done)|omega|(simp;omega)))))
      exact q_again ⟨i + 1, by omega⟩ (by dsimp only; omega) (.inl rfl)
    · obtain rfl : i = l.length := by omega
      clear hlt hi
      repeat (first|(with_reducible first|apply X1|apply X2|apply X4|apply X6|apply X8|apply Y1|apply Y4|apply Y6)|((with_reducible apply e_end);(simp;exact Red.rfl))|((with_reducible apply O1);rfl;(simp (disch:=omega);exact Red.rfl);exact Red.rfl;(focus (first|(simp;done)|omega|(simp;omega))))|((with_reducible apply W3);(simp (disch:=omega);exact Red.rfl)))
      rw [← le_zero (thrB t s l)]
      refine e_loop (ι := { i : Nat // i ≤ l.length })
        (fun i => [(1, .ptr H.length 0), (3, .map (H.length + 1)), (23, .int .i64 l.length), (24, .int .i64 i.1)])
        (fun i => H ++ [.cells [.int .u8 s.c, .int .i64 s.s1, .int .i64 s.s2, .int .i64 s.r1, .int .i64 s.r2, .int .i64 s.d1, .int .i64 s.d2, .int .i64 s.w1, .int .i64 s.w2, .int .i64 s.t1, .int .i64 s.t2, .slice id off l.length 9 ex, .fn (.func (moF t)) [] [], .fn (.func (leF t)) [] []] true, moX (wiF (hd t s l)) (leL (thrB t s l) l.length i.1) l.length, .cells (avR (r1 (wiF (hd t s l))) l.length) true]) (fun i => l.length - i.1) ⟨0, by simp⟩ ?_ ?_
      · exact .inl rfl
      · rintro ⟨i, hi⟩
        dsimp only
        by_cases hlt : i < l.length
        · have hlt2 : (i : Int) < l.length := by omega
          have hx := rd_row Str.av_length hs hlt
          have hst := strAt_eq hlt
          rw [← hst] at hx
          have cb := wi_bd hv hk t hlt
          have hsr := str_rad hv hlt
          have cst := fun H' b hb => c_straight H' (strAt l i) (b := b) hb
          have cth := cth i hlt
          have hthr : thrB t s l i = decide ((strAt l i).side ≠ 0 ∧ (strAt l i).wall < htF (wiF (hd t s l) i) (dn t (strAt l i).rLo (strAt l i).rHi) (up t s.t1 s.t2)) := rfl
          generalize strAt l i = st at hx hsr cst cth hthr
          obtain ⟨a1, a2, a3, a4, a5, a6, a7, a8, a9⟩ := st
          simp only [Str.av] at hx cst
          dsimp only at hsr cst cth hthr
          repeat (first|(with_reducible first|apply X1|apply X2|apply X5|apply X6|apply X8)|((with_reducible apply e_end);(simp;exact Red.rfl))|((with_reducible apply O1);rfl;(simp (disch:=omega) [hlt, hlt2, rd_old _ hid, hx];exact Red.rfl);exact Red.rfl;(focus (first|(simp;done)|omega|(simp;omega))))|((with_reducible apply Z9);(simp (disch:=omega) [hlt, hlt2, rd_old _ hid, hx];exact Red.rfl)))
          by_cases hside : a8 = 0
          · (with_reducible apply e_call); (simp; exact Red.rfl); exact cst _ true (by simp [hsr, hside])
            rintro _ _ ⟨rfl, rfl⟩
            repeat (first|(with_reducible first|apply X2|apply X8)|((with_reducible apply e_end);(simp;exact Red.rfl))|((with_reducible apply O1);rfl;(simp (disch:=omega);exact Red.rfl);exact Red.rfl;(focus (first|(simp;done)|omega|(simp;omega))))|((with_reducible apply Z9);(simp (disch:=omega);exact Red.rfl))|((with_reducible apply Z2);(simp (disch:=omega);exact Red.rfl)))
            have hf : thrB t s l i = false := by rw [hthr]; simp [hside]
            refine e_do (op := .mapDel _ _ _) rfl (den_delV (k := i) (w := wiF (hd t s l)) rfl rfl (by rw [at_new]; rfl) (le_mem hlt) (le_nd _ _ _)) Red.rfl trivial ?_
            rw [set_new, le_dropF hf]
            repeat (first|(with_reducible first|apply X2|apply X8|apply Y2)|((with_reducible apply e_end);(simp;exact Red.rfl))|((with_reducible apply O1);rfl;(simp (disch:=omega);exact Red.rfl);exact Red.rfl;(focus (first|(simp;done)|omega|(simp;omega)))))
            exact q_again ⟨i + 1, by omega⟩ (by dsimp only; omega) (.inl rfl)
          · (with_reducible apply e_call); (simp; exact Red.rfl); exact cst _ false (by simp [hsr, hside])
            rintro _ _ ⟨rfl, rfl⟩
            repeat (first|((with_reducible apply O1);rfl;(simp (disch:=omega);exact Red.rfl);exact Red.rfl;(focus (first|(simp;done)|omega|(simp;omega))))|((with_reducible apply Z7);(simp (disch:=omega);exact Red.rfl)))
            refine e_op (op := .mapGet _ _ _ _ _) rfl (den_getV (k := i) (w := wiF (hd t s l)) rfl rfl (by rw [at_new]; rfl) (le_mem hlt)) Red.rfl trivial ?_
            repeat ((with_reducible apply Z7);(simp (disch:=omega);exact Red.rfl))
            (with_reducible apply e_call); (simp; exact Red.rfl); exact cth hside _ (by rw [rd_old _ hid]; exact hs) _ cb
            rintro _ _ ⟨rfl, rfl⟩
            by_cases hw : a9 < htF (wiF (hd t s l) i) (dn t a6 a7) (up t s.t1 s.t2)
            · have hT : thrB t s l i = true := by rw [hthr]; simp [hside, hw]
              rw [← le_keepT hT]
              repeat (first|(with_reducible first|apply X2|apply X5|apply X8|apply Y2)|((with_reducible apply e_end);(simp;exact Red.rfl))|((with_reducible apply O1);rfl;(simp (disch:=omega) [hw];exact Red.rfl);exact Red.rfl;(focus (first|(simp;done)|omega|(simp;omega))))|((with_reducible apply Z7);(simp (disch:=omega) [hw];exact Red.rfl))|((with_reducible apply W3);(simp (disch:=omega) [hw];exact Red.rfl)))
              exact q_again ⟨i + 1, by omega⟩ (by dsimp only; omega) (.inl rfl)
            · have hf : thrB t s l i = false := by rw [hthr]; simp [hw]
              repeat (first|(with_reducible first|apply X2|apply X8)|((with_reducible apply e_end);(simp;exact Red.rfl))|((with_reducible apply O1);rfl;(simp (disch:=omega) [hw];exact Red.rfl);exact Red.rfl;(focus (first|(simp;done)|omega|(simp;omega))))|((with_reducible first|apply Z7|apply Z9);(simp (disch:=omega) [hw];exact Red.rfl)))
              refine e_do (op := .mapDel _ _ _) rfl (den_delV (k := i) (w := wiF (hd t s l)) rfl rfl (by rw [at_new]; rfl) (le_mem hlt) (le_nd _ _ _)) Red.rfl trivial ?_
              rw [set_new, le_dropF hf]
              repeat (first|(with_reducible first|apply X2|apply X8|apply Y2)|((with_reducible apply e_end);(simp;exact Red.rfl))|((with_reducible apply O1);rfl;(simp (disch:=omega);exact Red.rfl);exact Red.rfl;(focus (first|(simp;done)|omega|(simp;omega)))))
              exact q_again ⟨i + 1, by omega⟩ (by dsimp only; omega) (.inl rfl)
        · obtain rfl : i = l.length := by omega
          repeat (first|(with_reducible first|apply X1|apply X2|apply X4|apply X8|apply Y1|apply Y4|apply Y6)|((with_reducible apply e_end);(simp;exact Red.rfl))|((with_reducible apply O1);rfl;(simp (disch:=omega);exact Red.rfl);exact Red.rfl;(focus (first|(simp;done)|omega|(simp;omega))))|((with_reducible apply W3);(simp (disch:=omega);exact Red.rfl)))
          rw [le_end]
          (with_reducible apply e_call); (simp; exact Red.rfl); exact c_Keys _ (H.length + 1) (by simp)
          rintro _ _ ⟨rfl, rfl⟩
          have hX : (List.range l.length).filter (thrB t s l) = thL t s l := rfl
          rw [hX]
          have nd : (thL t s l).Nodup := List.Pairwise.filter _ List.nodup_range
          have hln : (thL t s l).length ≤ l.length := by
            have := List.length_filter_le (thrB t s l) (List.range l.length)
            simpa [thL] using this
          have inc : ∀ i j, i < j → j < (thL t s l).length → thK t s l i < thK t s l j := by
            intro i j hij hj
            have hp : (thL t s l).Pairwise (· < ·) := List.Pairwise.filter _ List.pairwise_lt_range
            have := List.pairwise_iff_getElem.1 hp i j (by omega) hj hij
            simp only [thK, List.getD_eq_getElem?_getD, List.getElem?_eq_getElem hj, List.getElem?_eq_getElem (show i < (thL t s l).length by omega), Option.getD_some]
            omega
          have KM : KeyMap (H ++ [.cells [.int .u8 s.c, .int .i64 s.s1, .int .i64 s.s2, .int .i64 s.r1, .int .i64 s.r2, .int .i64 s.d1, .int .i64 s.d2, .int .i64 s.w1, .int .i64 s.w2, .int .i64 s.t1, .int .i64 s.t2, .slice id off l.length 9 ex, .fn (.func (moF t)) [] [], .fn (.func (leF t)) [] []] true, moX (wiF (hd t s l)) (thL t s l) l.length, .cells (avR (r1 (wiF (hd t s l))) l.length) true, .cells [.map (H.length + 1)] true]) (H.length + 1) (mpV (wiF (hd t s l)) (thL t s l)) (thL t s l) l.length (thL t s l).length (thK t s l) :=
            ⟨by rw [at_new]; rfl, by simp [mpV], rfl, nd, fun b hb => List.mem_range.1 (List.mem_filter.1 hb).1, fun p hp => ⟨_, by
              rw [mpV_get _ (List.getElem?_eq_getElem hp)]
              simp only [thK, List.getD_eq_getElem?_getD, List.getElem?_eq_getElem hp, Option.getD_some]
              rfl⟩⟩
          have csd := c_Sorted _ (H.length + 3) (H.length + 1) l.length _ _ _ _ KM (by simp) (by omega) inc
          simp only [List.append_assoc, List.cons_append, List.nil_append, List.length_append, List.length_cons, List.length_nil, Nat.zero_add, Nat.reduceAdd]
          (with_reducible apply e_call); (simp; exact Red.rfl); exact csd
          rintro _ _ ⟨rfl, rfl⟩
          have pl := (plain_r1 (thK t s l)).plain (thL t s l).length
          generalize (thL t s l).length = m at pl ⊢
          unfold lV lO
          by_cases h0 : m = 0
          · simp only [if_pos h0, List.append_nil]
            repeat (first|(with_reducible first|apply X3|apply X8)|((with_reducible apply e_end);(simp;exact Red.rfl))|((with_reducible apply O1);rfl;(simp (disch:=omega);exact Red.rfl);exact Red.rfl;(focus (first|(simp;done)|omega|(simp;omega)))))
            exact q_post (v' := .nilslice) (.inr rfl) (by simp; exact Red.rfl) (le_drop (by simp)) ⟨rfl, rfl⟩
          · simp only [if_neg h0]
            repeat (first|(with_reducible first|apply X3|apply X8)|((with_reducible apply e_end);(simp;exact Red.rfl))|((with_reducible apply O1);rfl;(simp (disch:=omega);exact Red.rfl);exact Red.rfl;(focus (first|(simp;done)|omega|(simp;omega)))))
            exact q_post (v' := .slice H.length 0 m 1 false) (.inr rfl) (by simp; exact Red.rfl) (le_plain [4] _ (by simp) rfl (by simp; exact pl.o _) (by simp [sh, AV.ren])) ⟨rfl, rfl⟩
end Go.Proofs
/- Who is safe, and who may be thrown where. -/
namespace Go.Proofs
open Go.Abs
attribute [local simp] AOp.den AOpd.ev lk cellsOf rd_new rd_new0 rd_zero rd_succ wr_new wr_new0 wr_zero wr_succ splice fillA binA scal sliceCells List.length_append argsT AV.sc scL AObj.sc resV getAll AR.get AOp.slots opdSlots opdsSlots partSlots eqAt at_new0 at_new set_new0 set_new wrap64
set_option linter.unusedSimpArgs false
set_option linter.unusedVariables false
/-- How many curves may throw. -/
def thN (t : Bool) (s : Sl) (l : List Str) : Nat := (thL t s l).length
/-- The first one of them. -/
def thC (t : Bool) (s : Sl) (l : List Str) : Nat := (thL t s l).getD 0 0
theorem thC_is {t : Bool} {s : Sl} {l : List Str} (h : thN t s l ≠ 0) : thC t s l < l.length ∧ thrB t s l (thC t s l) = true ∧ ∀ j, j < thC t s l → thrB t s l j = false := by
  unfold thN at h
  have hpos : 0 < (thL t s l).length := by omega
  have e : thC t s l = (thL t s l)[0] := by unfold thC; rw [List.getD_eq_getElem?_getD, List.getElem?_eq_getElem hpos]; rfl
  have hm : thC t s l ∈ thL t s l := by rw [e]; exact List.getElem_mem _
  obtain ⟨h1, h2⟩ := List.mem_filter.1 hm
  refine ⟨List.mem_range.1 h1, h2, fun j hj => ?_⟩
  cases hb : thrB t s l j with
  | false => rfl
  | true =>
    exfalso
    have hjm : j ∈ thL t s l := List.mem_filter.2 ⟨List.mem_range.2 (by have := List.mem_range.1 h1; omega), hb⟩
    obtain ⟨p, hp, hpe⟩ := List.mem_iff_getElem.1 hjm
    have hpw : (thL t s l).Pairwise (· < ·) := List.Pairwise.filter _ List.pairwise_lt_range
    rcases Nat.eq_zero_or_pos p with h0 | h0
    · subst h0; rw [← e] at hpe; omega
    · have := List.pairwise_iff_getElem.1 hpw 0 p hpos hp h0
      rw [← e, hpe] at this; omega

theorem c_safe (H : Heap) (s : Sl) (l : List Str) (id off : Nat) (ex : Bool) (hs : rd H id off (l.length * 9) = some (l.flatMap Str.av)) (hv : validL l) (hk : s.ok) :
    ACalls Try.prog F.slide_slider_safe [.agg (s.av ++ [.slice id off l.length 9 ex])] H (fun v h' => v = .bool (decide (thN true s l = 0)) ∧ h' = H) := by
  have hid := rd_lt hs
  have cf := fun H' h => c_fastest H' s id off l.length ex h
  have ct := fun H' h => c_throwing true H' s l id off ex h hv hk
  have hN : (thL true s l).length = thN true s l := rfl
  simp only [trv, Sl.av, List.cons_append, List.nil_append] at cf ct ⊢
  refine acalls_of ok_slide_slider_safe rfl fun hcl => ?_
  unfold ac_slide_slider_safe
  simp only [argsT, Nat.zero_add, Nat.reduceAdd]
  repeat (first|(with_reducible first|apply X1|apply X2|apply X8)|((with_reducible apply e_end);(simp;exact Red.rfl))|((with_reducible apply O1);rfl;(simp (disch:=omega);exact Red.rfl);exact Red.rfl;(focus (first|(simp;done)|omega|(simp;omega)))))
  (with_reducible apply e_call); (simp; exact Red.rfl); exact cf _ (by simp; omega)
  rintro _ _ ⟨rfl, rfl⟩
  skip
  (with_reducible apply e_call); (simp; exact Red.rfl); exact ct _ (by rw [rd_old _ hid]; exact hs)
  rintro _ _ ⟨rfl, rfl⟩
  rw [hN]
  unfold lV lO
  by_cases h0 : thN true s l = 0
  · simp only [if_pos h0, List.append_nil]
    repeat (first|(with_reducible first|apply X3|apply X8)|((with_reducible apply e_end);(simp;exact Red.rfl))|((with_reducible apply O1);rfl;(simp (disch:=omega);exact Red.rfl);exact Red.rfl;(focus (first|(simp;done)|omega|(simp;omega)))))
    refine q_drop (.inr rfl) (by simp; exact Red.rfl) (by simp) ⟨by simp [h0], rfl⟩
  · simp only [if_neg h0]
    have h1 : ¬ ((thN true s l : Nat) : Int) = 0 := by omega
    repeat (first|(with_reducible first|apply X3|apply X8)|((with_reducible apply e_end);(simp;exact Red.rfl))|((with_reducible apply O1);rfl;(simp (disch:=omega) [h0, h1];exact Red.rfl);exact Red.rfl;(focus (first|(simp;done)|omega|(simp;omega)))))
    refine q_drop (.inr rfl) (by simp; exact Red.rfl) (by simp) ⟨by simp [h0], rfl⟩

/-- What is known of a sled. -/
def knF (s : Sl) (l : List Str) : Int := if thN true s l = 0 then 2 else if thN false s l = 0 then 1 else 0
theorem c_Safe (H : Heap) (l : List Str) (id off : Nat) (ex : Bool) (s : Sl) (hs : rd H id off (l.length * 9) = some (l.flatMap Str.av)) (hv : validL l) (hk : s.ok) :
    ACalls Try.prog F.slide_Safe [.agg [.slice id off l.length 9 ex], .agg s.av] H (fun v h' => v = .tuple [.int .u8 (knF s l), .int .i64 0] ∧ h' = H) := by
  have hid := rd_lt hs
  have h12 := hv.1
  have ck := fun H' h1 xid h2 => c_checkOne H' l id off ex s xid 0 true h1 hv hk h2
  have csf := fun H' h => c_safe H' s l id off ex h hv hk
  have cs := fun H' h => c_slowest H' s id off l.length ex h
  have ct := fun H' h => c_throwing false H' s l id off ex h hv hk
  have hN : (thL false s l).length = thN false s l := rfl
  unfold knF
  simp only [trv, Sl.av, List.cons_append, List.nil_append] at ck csf cs ct ⊢
  refine acalls_of ok_slide_Safe rfl fun hcl => ?_
  unfold ac_slide_Safe
  simp only [argsT, Nat.zero_add, Nat.reduceAdd]
  repeat (first|(with_reducible first|apply X1|apply X2|apply X8)|((with_reducible apply e_end);(simp;exact Red.rfl))|((with_reducible apply O1);rfl;(simp (disch:=omega);exact Red.rfl);exact Red.rfl;(focus (first|(simp;done)|omega|(simp;omega)))))
  (with_reducible apply e_call); (simp; exact Red.rfl); exact ck _ (by rw [rd_old _ hid]; exact hs) _ (by simp)
  rintro _ _ ⟨rfl, rfl⟩
  repeat (first|(with_reducible first|apply X1|apply X2|apply X5|apply X6|apply X8)|((with_reducible apply e_end);(simp;exact Red.rfl))|((first|((with_reducible apply O1);rfl)|((with_reducible apply O2);rfl));(simp (disch:=omega);exact Red.rfl);exact Red.rfl;(focus (first|(simp;done)|omega|(simp;omega))))|((with_reducible apply W3);(simp (disch:=omega);exact Red.rfl)))
  (with_reducible apply e_call); (simp; exact Red.rfl); exact csf _ (by rw [rd_old _ hid]; exact hs)
  rintro _ _ ⟨rfl, rfl⟩
  by_cases h0 : thN true s l = 0
  · repeat (first|(with_reducible first|apply X1|apply X2|apply X3|apply X8|apply X9|apply Y3)|((with_reducible apply e_end);(simp;exact Red.rfl))|((with_reducible apply O1);rfl;(simp (disch:=omega) [h0];exact Red.rfl);exact Red.rfl;(focus (first|(simp;done)|omega|(simp;omega))))|((with_reducible apply Z9);(simp (disch:=omega) [h0];exact Red.rfl)))
    refine q_drop (.inr rfl) (by simp; exact Red.rfl) (by simp) ⟨by simp [h0], rfl⟩
  · repeat (first|(with_reducible first|apply X1|apply X2|apply X8)|((with_reducible apply e_end);(simp;exact Red.rfl))|((with_reducible apply O1);rfl;(simp (disch:=omega) [h0];exact Red.rfl);exact Red.rfl;(focus (first|(simp;done)|omega|(simp;omega))))|((with_reducible apply W3);(simp (disch:=omega) [h0];exact Red.rfl)))
    (with_reducible apply e_call); (simp; exact Red.rfl); exact cs _ (by simp; omega)
    rintro _ _ ⟨rfl, rfl⟩
    skip
    (with_reducible apply e_call); (simp; exact Red.rfl); exact ct _ (by simp only [List.append_assoc, rd_old _ hid]; exact hs)
    rintro _ _ ⟨rfl, rfl⟩
    rw [hN]
    unfold lV lO
    by_cases h1 : thN false s l = 0
    · simp only [if_pos h1, List.append_nil]
      repeat (first|(with_reducible first|apply X1|apply X2|apply X3|apply X5|apply X8|apply Y2)|((with_reducible apply e_end);(simp;exact Red.rfl))|((with_reducible apply O1);rfl;(simp (disch:=omega);exact Red.rfl);exact Red.rfl;(focus (first|(simp;done)|omega|(simp;omega))))|((with_reducible apply W3);(simp (disch:=omega);exact Red.rfl)))
      refine q_drop (.inr rfl) (by simp; exact Red.rfl) (by simp) ⟨by simp [h0, h1], rfl⟩
    · simp only [if_neg h1]
      have h2 : 0 < ((thN false s l : Nat) : Int) := by omega
      have h3 : 0 < thN false s l := by omega
      repeat (first|(with_reducible first|apply X1|apply X2|apply X3|apply X8|apply X9|apply Y3)|((with_reducible apply e_end);(simp;exact Red.rfl))|((with_reducible apply O1);rfl;(simp (disch:=omega) [h2, h3];exact Red.rfl);exact Red.rfl;(focus (first|(simp;done)|omega|(simp;omega))))|((with_reducible apply Z9);(simp (disch:=omega) [h2, h3];exact Red.rfl)))
      refine q_drop (.inr rfl) (by simp; exact Red.rfl) (by simp) ⟨by simp [h0, h1], rfl⟩

/-- The least number of which something is so, up to one. -/
def leastF (p : Int → Bool) : Nat → Nat
  | 0 => 0
  | n + 1 => if p (leastF p n) = true then leastF p n else if leastF p n = n then n + 1 else leastF p n
theorem leastF_is (p : Int → Bool) : ∀ n, leastF p n ≤ n ∧ (∀ m : Nat, m < leastF p n → p m = false) ∧ (leastF p n < n → p (leastF p n) = true)
  | 0 => ⟨Nat.le_refl _, fun m h => by simp [leastF] at h, fun h => by simp [leastF] at h⟩
  | n + 1 => by
    obtain ⟨h1, h2, h3⟩ := leastF_is p n
    simp only [leastF]
    by_cases hp : p (leastF p n) = true
    · rw [if_pos hp]; exact ⟨by omega, h2, fun _ => hp⟩
    · rw [if_neg hp]
      by_cases he : leastF p n = n
      · rw [if_pos he]
        refine ⟨Nat.le_refl _, fun m hm => ?_, fun h => by omega⟩
        rcases Nat.lt_or_ge m n with h | h
        · exact h2 m (by omega)
        · obtain rfl : m = leastF p n := by omega
          simpa using hp
      · rw [if_neg he]; exact absurd (h3 (by omega)) hp
theorem least_uniq {p : Int → Bool} {n : Nat} {r : Int} (h0 : 0 ≤ r) (hn : r ≤ n) (h1 : ∀ m, 0 ≤ m → m < r → p m = false) (h2 : ∀ m, r ≤ m → m < n → p m = true) : r = leastF p n := by
  obtain ⟨g1, g2, g3⟩ := leastF_is p n
  rcases Int.lt_trichotomy r (leastF p n) with h | h | h
  · have e1 := g2 r.toNat (by omega)
    have e2 := h2 r (Int.le_refl _) (by omega)
    rw [Int.toNat_of_nonneg h0, e2] at e1; cases e1
  · exact h
  · have e1 := h1 (leastF p n) (by omega) h
    rw [g3 (by omega)] at e1; cases e1

theorem c_firstL (H : Heap) (g : FuncId) (caps : List AV) (b : Int) (p : Int → Bool) (hab : 0 ≤ b) (hb : b ≤ 4000000000000000000) (hcaps : scL H.length caps = true)
    (hp : ∀ m, 0 ≤ m → m < b → ACalls Try.prog g (.int .i64 m :: caps) H (fun v h' => v = .bool (p m) ∧ h' = H)) (hm : ∀ m, 0 ≤ m → m + 1 < b → p m = true → p (m + 1) = true) :
    ACalls Try.prog F.span_First_int [.int .i64 0, .int .i64 b, .fn (.func g) [] caps] H (fun v h' => v = .int .i64 (leastF p b.toNat) ∧ h' = H) :=
  (c_first H g caps 0 b p (Int.le_refl _) hab hb hcaps hp hm).mono fun _ _ ⟨he, r, hv, h1, h2, h3, h4⟩ => ⟨by rw [hv, least_uniq (p := p) (n := b.toNat) h1 (by omega) h3 (fun m q1 q2 => h4 m q1 (by omega))], he⟩

/-- Whether a curve throws at a head. -/
def thrP (t : Bool) (s : Sl) (l : List Str) (i : Nat) (x : Int) : Bool := decide ((strAt l i).wall < htF x (dn t (strAt l i).rLo (strAt l i).rHi) (up t s.t1 s.t2))
theorem thrP_mono {t : Bool} {s : Sl} {l : List Str} {i : Nat} (hr : 1 ≤ dn t (strAt l i).rLo (strAt l i).rHi) {x y : Int} (hx : 0 ≤ x) (hxy : x ≤ y) (h : thrP t s l i x = true) : thrP t s l i y = true := by
  simp only [thrP, decide_eq_true_eq] at h ⊢
  have := ht_mono (t := up t s.t1 s.t2) (t' := up t s.t1 s.t2) hx hxy (show 0 < dn t (strAt l i).rLo (strAt l i).rHi by omega) (Int.le_refl _) (Int.le_refl _)
  omega
/-- The head at which a curve throws, at least. -/
def nmR (s : Sl) (l : List Str) : Int := leastF (thrP true s l (thC true s l)) (wiF (hd true s l) (thC true s l)).toNat

theorem c_Names1 (H : Heap) (s : Sl) (l : List Str) (id off : Nat) (ex : Bool) (tid cid i : Nat) (x : Int) (hs : rd H id off (l.length * 9) = some (l.flatMap Str.av)) (hv : validL l) (hk : s.ok)
    (ht : rd H tid 0 14 = some (trv true s (.slice id off l.length 9 ex))) (hc : rd H cid 0 1 = some [.int .i64 i]) (hi : i < l.length) (hside : (strAt l i).side ≠ 0) (hx : 0 ≤ x ∧ x ≤ 260000) :
    ACalls Try.prog F.slide_Names_1 [.int .i64 x, .ptr tid 0, .ptr cid 0] H (fun v h' => v = .bool (thrP true s l i x) ∧ h' = H) := by
  have cth := c_throws true H s l id off ex hs hv hk i hi x hx hside
  simp only [trv, Sl.av, List.cons_append, List.nil_append] at ht cth
  refine acalls_of ok_slide_Names_1 rfl fun hcl => ?_
  unfold ac_slide_Names_1
  simp only [argsT, Nat.zero_add, Nat.reduceAdd]
  repeat (first|(with_reducible first|apply X1|apply X2|apply X8)|((with_reducible apply e_end);(simp;exact Red.rfl))|((with_reducible apply O1);rfl;(simp (disch:=omega) [ht, hc];exact Red.rfl);exact Red.rfl;(focus (first|(simp;done)|omega|(simp;omega)))))
  (with_reducible apply e_call); (simp; exact Red.rfl); exact cth
  rintro _ _ ⟨rfl, rfl⟩
  repeat (first|(with_reducible first|apply X3|apply X8)|((with_reducible apply e_end);(simp;exact Red.rfl))|((with_reducible apply O1);rfl;(simp (disch:=omega);exact Red.rfl);exact Red.rfl;(focus (first|(simp;done)|omega|(simp;omega)))))
  refine q_drop0 (.inr rfl) (by simp; exact Red.rfl) (by simp) ⟨rfl, rfl⟩

theorem c_Names (H : Heap) (l : List Str) (id off : Nat) (ex : Bool) (s : Sl) (hs : rd H id off (l.length * 9) = some (l.flatMap Str.av)) (hv : validL l) (hk : s.ok) :
    ACalls Try.prog F.slide_Names [.agg [.slice id off l.length 9 ex], .agg s.av] H (fun v h' => h' = H ∧ ((thN true s l = 0 ∧ v = .tuple [.int .i64 0, .int .i64 0, .int .i64 6]) ∨ (thN true s l ≠ 0 ∧ v = .tuple [.int .i64 (thC true s l), .int .i64 (dnV (nmR s l)), .int .i64 0]))) := by
  have hid := rd_lt hs
  have h12 := hv.1
  have ck := fun H' h1 xid h2 => c_checkOne H' l id off ex s xid 0 true h1 hv hk h2
  have cf := fun H' h => c_fastest H' s id off l.length ex h
  have ct := fun H' h => c_throwing true H' s l id off ex h hv hk
  have cw := fun H' h => c_swithin true H' s l id off ex h hv hk
  have hN : (thL true s l).length = thN true s l := rfl
  have c1 := fun H' tid cid i x h h2 h3 h4 h5 h6 => c_Names1 H' s l id off ex tid cid i x h hv hk h2 h3 h4 h5 h6
  simp only [trv, Sl.av, List.cons_append, List.nil_append] at ck cf ct cw c1 ⊢
  refine acalls_of ok_slide_Names rfl fun hcl => ?_
  unfold ac_slide_Names
  simp only [argsT, Nat.zero_add, Nat.reduceAdd]
  repeat (first|(with_reducible first|apply X1|apply X2|apply X8)|((with_reducible apply e_end);(simp;exact Red.rfl))|((with_reducible apply O1);rfl;(simp (disch:=omega);exact Red.rfl);exact Red.rfl;(focus (first|(simp;done)|omega|(simp;omega)))))
  (with_reducible apply e_call); (simp; exact Red.rfl); exact ck _ (by rw [rd_old _ hid]; exact hs) _ (by simp)
  rintro _ _ ⟨rfl, rfl⟩
  repeat (first|(with_reducible first|apply X1|apply X2|apply X5|apply X8)|((with_reducible apply e_end);(simp;exact Red.rfl))|((with_reducible apply O1);rfl;(simp (disch:=omega);exact Red.rfl);exact Red.rfl;(focus (first|(simp;done)|omega|(simp;omega))))|((with_reducible apply W3);(simp (disch:=omega);exact Red.rfl)))
  (with_reducible apply e_call); (simp; exact Red.rfl); exact cf _ (by simp; omega)
  rintro _ _ ⟨rfl, rfl⟩
  repeat (first|(with_reducible first|apply X1|apply X2|apply X8)|((with_reducible apply e_end);(simp;exact Red.rfl))|((first|((with_reducible apply O1);rfl)|((with_reducible apply O2);rfl));(simp (disch:=omega);exact Red.rfl);exact Red.rfl;(focus (first|(simp;done)|omega|(simp;omega)))))
  (with_reducible apply e_call); (simp; exact Red.rfl); exact ct _ (by simp only [List.append_assoc, rd_old _ hid]; exact hs)
  rintro _ _ ⟨rfl, rfl⟩
  rw [hN]
  unfold lV lO
  by_cases h0 : thN true s l = 0
  · simp only [if_pos h0, List.append_nil]
    repeat (first|(with_reducible first|apply X1|apply X2|apply X3|apply X8|apply X9)|((with_reducible apply e_end);(simp;exact Red.rfl))|((first|((with_reducible apply O1);rfl)|((with_reducible apply O2);rfl));(simp (disch:=omega);exact Red.rfl);exact Red.rfl;(focus (first|(simp;done)|omega|(simp;omega))))|((with_reducible apply Z9);(simp (disch:=omega);exact Red.rfl)))
    refine q_drop (.inr rfl) (by simp; exact Red.rfl) (by simp) ⟨rfl, .inl ⟨h0, rfl⟩⟩
  · simp only [if_neg h0]
    obtain ⟨k1, k2, k3⟩ := thC_is h0
    have h1 : ¬ ((thN true s l : Nat) : Int) = 0 := by omega
    have h2 : 0 < thN true s l := by omega
    have h3 : (0 : Int) < ((thN true s l : Nat) : Int) := by omega
    have h4 : 1 ≤ thN true s l := h2
    have e0 : thK true s l 0 = (thC true s l : Nat) := rfl
    have q0 : (avR (r1 (thK true s l)) (thN true s l)).take 1 = [.int .i64 (thC true s l : Nat)] := by
      have := (plain_r1 (thK true s l)).part (n := thN true s l) (i := 0) (c := 0) (m := 1) h2 (by omega)
      simpa [r1, e0] using this
    have ll := (plain_r1 (thK true s l)).length (thN true s l)
    repeat (first|(with_reducible first|apply X1|apply X2|apply X5|apply X8|apply Y9)|((with_reducible apply e_end);(simp;exact Red.rfl))|((first|((with_reducible apply O1);rfl)|((with_reducible apply O2);rfl)|((with_reducible apply P2);rfl));(simp (disch:=omega) [h0, h1, h2, h3, h4, q0, ll];exact Red.rfl);exact Red.rfl;(focus (first|(simp;done)|omega|(simp;omega))))|((with_reducible apply W3);(simp (disch:=omega) [h0, h1, h2, h3, h4, q0, ll];exact Red.rfl)))
    have hsd : (strAt l (thC true s l)).side ≠ 0 := by
      simp only [thrB, decide_eq_true_eq] at k2; exact k2.1
    have hrad := curve_rad hv k1 hsd
    have cb := wi_bd hv hk true k1
    have qW : ((avR (r1 (wiF (hd true s l))) l.length).drop (thC true s l)).take 1 = [.int .i64 (wiF (hd true s l) (thC true s l))] := by
      simpa [r1] using (plain_r1 (wiF (hd true s l))).part (n := l.length) (i := thC true s l) (c := 0) (m := 1) k1 (by omega)
    have lw := (plain_r1 (wiF (hd true s l))).length l.length
    have hR : nmR s l = leastF (thrP true s l (thC true s l)) (wiF (hd true s l) (thC true s l)).toNat := rfl
    have hRb := (leastF_is (thrP true s l (thC true s l)) (wiF (hd true s l) (thC true s l)).toNat).1
    have pmono : ∀ m, 0 ≤ m → m + 1 < wiF (hd true s l) (thC true s l) → thrP true s l (thC true s l) m = true → thrP true s l (thC true s l) (m + 1) = true :=
      fun m hm _ h => thrP_mono (by rw [show dn true (strAt l (thC true s l)).rLo (strAt l (thC true s l)).rHi = (strAt l (thC true s l)).rLo from rfl]; omega) hm (by omega) h
    have e1 : thC true s l + 1 ≤ l.length := k1
    have e2 : ((thC true s l : Nat) : Int) < l.length := by omega
    (with_reducible apply d_call_); (simp; exact Red.rfl); exact cw _ (by simp only [List.append_assoc, rd_old _ hid]; exact hs); (focus (first | (simp; done) | (simp; omega)))
    generalize hcc : thC true s l = cu at *
    repeat (first|((first|((with_reducible apply P1);rfl)|((with_reducible apply P2);rfl));(simp (disch:=omega) [qW, lw, e1, e2, k1];exact Red.rfl);exact Red.rfl;(focus (first|(simp;done)|omega|(simp;omega))))|((with_reducible apply P7);rfl;(simp (disch:=omega) [qW, lw, e1, e2, k1];exact Red.rfl);exact Red.rfl;(focus (simp [repast, pr, AOp.sem];done))))
    (with_reducible apply d_call); (simp; exact Red.rfl)
    · exact c_firstL _ F.slide_Names_1 [.ptr (H.length + 4) 0, .ptr (H.length + 2) 0] (wiF (hd true s l) cu) (thrP true s l cu) (by omega) (by omega) (by simp)
        (fun m hm hm2 => c1 _ (H.length + 4) (H.length + 2) cu m (by simp only [List.append_assoc, rd_old _ hid]; exact hs) (by simp) (by simp) k1 hsd (by omega)) pmono
    · simp
    rw [← hR]
    have hRb2 : 0 ≤ nmR s l ∧ nmR s l ≤ 260000 := by rw [hR]; omega
    generalize nmR s l = rr at hRb2 ⊢
    repeat (first|(with_reducible first|apply X1|apply X8|apply Y9)|((with_reducible apply d_end);(simp;exact Red.rfl))|((first|((with_reducible apply P1);rfl)|((with_reducible apply P2);rfl));(simp (disch:=omega);exact Red.rfl);exact Red.rfl;(focus (first|(simp;done)|omega|(simp;omega)))))
    (with_reducible apply d_call); (simp; exact Red.rfl); exact c_speedOf' _ _ (by omega); (focus (first | (simp; done) | (simp; omega)))
    repeat (first|(with_reducible first|apply X3|apply X8)|((with_reducible apply d_end);(simp;exact Red.rfl))|((first|((with_reducible apply P1);rfl)|((with_reducible apply P4);rfl));(simp (disch:=omega);exact Red.rfl);exact Red.rfl;(focus (first|(simp;done)|omega|(simp;omega)))))
    refine q_drop (.inr rfl) (by simp; exact Red.rfl) (by simp) ⟨rfl, .inr ⟨h0, rfl⟩⟩
end Go.Proofs
/- Sleds for which the run is shut. -/
namespace Go.Proofs
open Go.Abs
attribute [local simp] AOp.den AOpd.ev lk cellsOf rd_new rd_new0 rd_zero rd_succ wr_new wr_new0 wr_zero wr_succ splice fillA binA scal sliceCells List.length_append argsT AV.sc scL AObj.sc resV getAll AR.get AOp.slots opdSlots opdsSlots partSlots eqAt at_new0 at_new set_new0 set_new wrap64
set_option linter.unusedSimpArgs false
set_option linter.unusedVariables false
def slAt (xs : List Sl) (j : Nat) : Sl := xs.getD j ⟨0, 0, 0, 0, 0, 0, 0, 0, 0, 0, 0⟩
theorem slAt_eq {xs : List Sl} {j : Nat} (h : j < xs.length) : slAt xs j = xs[j] := by
  simp [slAt, List.getD_eq_getElem?_getD, List.getElem?_eq_getElem h]
/-- The sleds that may be thrown, of the first ones. -/
def shL (xs : List Sl) (l : List Str) (i : Nat) : List Nat := (List.range i).filter fun j => decide (thN true (slAt xs j) l ≠ 0)
def shK (xs : List Sl) (l : List Str) (i p : Nat) : Int := ((shL xs l i).getD p 0 : Nat)
theorem shL_no {xs : List Sl} {l : List Str} {i : Nat} (h : thN true (slAt xs i) l = 0) : shL xs l (i + 1) = shL xs l i := by
  unfold shL; rw [List.range_succ, List.filter_append]; simp [h]
theorem shL_yes {xs : List Sl} {l : List Str} {i : Nat} (h : thN true (slAt xs i) l ≠ 0) : shL xs l (i + 1) = shL xs l i ++ [i] := by
  unfold shL; rw [List.range_succ, List.filter_append]; simp [h]
theorem shL_le (xs : List Sl) (l : List Str) (i : Nat) : (shL xs l i).length ≤ i := by
  have := List.length_filter_le (fun j => decide (thN true (slAt xs j) l ≠ 0)) (List.range i)
  simpa [shL] using this
theorem shL_app (xs : List Sl) (l : List Str) {i n : Nat} (h : i ≤ n) : ∃ r, shL xs l n = shL xs l i ++ r := by
  induction n with
  | zero => obtain rfl : i = 0 := by omega
            exact ⟨[], by simp⟩
  | succ n ih =>
    rcases Nat.lt_or_ge n i with h1 | h1
    · obtain rfl : i = n + 1 := by omega
      exact ⟨[], by simp⟩
    · obtain ⟨r, hr⟩ := ih h1
      by_cases ht : thN true (slAt xs n) l = 0
      · exact ⟨r, by rw [shL_no ht, hr]⟩
      · exact ⟨r ++ [n], by rw [shL_yes ht, hr, List.append_assoc]⟩
theorem shL_len_le (xs : List Sl) (l : List Str) {i n : Nat} (h : i ≤ n) : (shL xs l i).length ≤ (shL xs l n).length := by
  obtain ⟨r, hr⟩ := shL_app xs l h
  rw [hr, List.length_append]; omega
theorem shL_at {xs : List Sl} {l : List Str} {i n : Nat} (h : i < n) (ht : thN true (slAt xs i) l ≠ 0) : (shL xs l i).length < (shL xs l n).length ∧ shK xs l n (shL xs l i).length = i := by
  obtain ⟨r, hr⟩ := shL_app xs l (show i + 1 ≤ n from h)
  rw [shL_yes ht] at hr
  refine ⟨by rw [hr]; simp, ?_⟩
  unfold shK
  rw [hr]
  simp [List.getD_eq_getElem?_getD]
theorem shL_not {xs : List Sl} {l : List Str} {i n p : Nat} (ht : thN true (slAt xs i) l = 0) (hp : p < (shL xs l n).length) : shK xs l n p ≠ i := fun e => by
  have hm : (shL xs l n)[p] ∈ shL xs l n := List.getElem_mem hp
  have hv : shK xs l n p = ((shL xs l n)[p] : Nat) := by unfold shK; simp [List.getD_eq_getElem?_getD, List.getElem?_eq_getElem hp]
  have h2 : (shL xs l n)[p] = i := by omega
  rw [h2] at hm
  unfold shL at hm
  have := (List.mem_filter.1 hm).2
  simp [ht] at this
theorem shK_snoc {xs : List Sl} {l : List Str} {i : Nat} (h : thN true (slAt xs i) l ≠ 0) : avR (r1 (shK xs l i)) (shL xs l i).length ++ [.int .i64 (i : Int)] = avR (r1 (shK xs l (i + 1))) ((shL xs l i).length + 1) := by
  rw [avR_succ]
  have e := shL_yes h
  congr 1
  · exact avR_congr fun j hj => by simp only [r1, shK, e, List.getD_eq_getElem?_getD]; rw [List.getElem?_append_left hj]
  · simp [r1, shK, e, List.getD_eq_getElem?_getD]
def lV1 (H : Heap) (m : Nat) : AV := if m = 0 then .nilslice else .slice (H.length + 1) 0 m 1 false

set_option maxHeartbeats 2000000 in
theorem c_Shut (H : Heap) (l : List Str) (id off : Nat) (ex : Bool) (xs : List Sl) (xid xoff : Nat) (xex : Bool) (hs : rd H id off (l.length * 9) = some (l.flatMap Str.av)) (hv : validL l)
    (hx : rd H xid xoff (xs.length * 11) = some (xs.flatMap Sl.av)) (h6 : xs.length ≤ 6) (hk : ∀ i (hi : i < xs.length), xs[i].ok) :
    ACalls Try.prog F.slide_Shut [.agg [.slice id off l.length 9 ex], .slice xid xoff xs.length 11 xex] H
      (fun v h' => v = .tuple [lV H (shL xs l xs.length).length, .int .i64 0] ∧ h' = H ++ lO (shL xs l xs.length).length (shK xs l xs.length)) := by
  have hid := rd_lt hs
  have hxd := rd_lt hx
  have h12 := hv.1
  have ck : ∀ H' (h1 : rd H' id off (l.length * 9) = some (l.flatMap Str.av)) (h2 : rd H' xid xoff (xs.length * 11) = some (xs.flatMap Sl.av)),
      ACalls Try.prog F.slide_checkAll [.agg [.slice id off l.length 9 ex], .slice xid xoff xs.length 11 xex] H' (fun v h' => v = .int .i64 0 ∧ h' = H') := fun H' h1 h2 => by
    refine (c_scheckAll H' l id off ex xs xid xoff xex h1 (by omega) h2 (by omega)).mono ?_
    rintro _ _ ⟨rfl, e, rfl, h⟩
    rcases h with ⟨rfl, _⟩ | ⟨_, h⟩ | ⟨_, _, h⟩ | ⟨_, _, _, h⟩
    · exact ⟨rfl, rfl⟩
    · exact absurd hv h
    · omega
    · exact absurd hk h
  have csf := fun H' s h hk' => c_safe H' s l id off ex h hv hk'
  simp only [Sl.av, List.cons_append, List.nil_append] at csf
  refine acalls_of ok_slide_Shut rfl fun hcl => ?_
  unfold ac_slide_Shut
  simp only [argsT, Nat.zero_add, Nat.reduceAdd]
  repeat (first|(with_reducible first|apply X1|apply X2|apply X8)|((with_reducible apply e_end);(simp;exact Red.rfl))|((with_reducible apply O1);rfl;(simp (disch:=omega);exact Red.rfl);exact Red.rfl;(focus (first|(simp;done)|omega|(simp;omega)))))
  (with_reducible apply e_call); (simp; exact Red.rfl); exact ck _ (by rw [rd_old _ hid]; exact hs) (by rw [rd_old _ hxd]; exact hx)
  rintro _ _ ⟨rfl, rfl⟩
  repeat (first|(with_reducible first|apply X1|apply X2|apply X5|apply X6|apply X8)|((with_reducible apply e_end);(simp;exact Red.rfl))|((with_reducible apply O1);rfl;(simp (disch:=omega);exact Red.rfl);exact Red.rfl;(focus (first|(simp;done)|omega|(simp;omega))))|((with_reducible apply W3);(simp (disch:=omega);exact Red.rfl)))
  refine e_loop (ι := { i : Nat // i ≤ xs.length })
    (fun i => [(2, .ptr H.length 0), (7, lV1 H (shL xs l i.1).length), (16, .slice xid xoff xs.length 11 xex), (17, .int .i64 xs.length), (18, .int .i64 i.1)])
    (fun i => H ++ (.cells [.slice id off l.length 9 ex] true :: lO (shL xs l i.1).length (shK xs l i.1))) (fun i => xs.length - i.1) ⟨0, by simp⟩ ?_ ?_
  · exact .inl rfl
  · rintro ⟨i, hi⟩
    dsimp only
    by_cases hlt : i < xs.length
    · have hlt2 : (i : Int) < xs.length := by omega
      have hrow := rd_row Sl.av_length hx hlt
      have hst := slAt_eq hlt
      rw [← hst] at hrow
      have hki := hk i hlt
      rw [← hst] at hki
      have hm := shL_le xs l i
      have hsn := fun h => shK_snoc (xs := xs) (l := l) (i := i) h
      have hy := fun h => shL_yes (xs := xs) (l := l) (i := i) h
      have hno := fun h => shL_no (xs := xs) (l := l) (i := i) h
      have hkno : ∀ h : thN true (slAt xs i) l = 0, shK xs l (i + 1) = shK xs l i := fun h => by funext p; unfold shK; rw [hno h]
      have pl := (plain_r1 (shK xs l i)).plain (shL xs l i).length
      have ll := (plain_r1 (shK xs l i)).length (shL xs l i).length
      generalize hsl : slAt xs i = s at *
      have csf' := fun H' h => csf H' s h hki
      obtain ⟨c, a1, a2, a3, a4, a5, a6, a7, a8, a9, a10⟩ := s
      simp only [Sl.av] at hrow
      dsimp only at csf'
      generalize hmm : (shL xs l i).length = m at *
      by_cases h0 : m = 0
      · subst h0
        simp only [lV1, lO, if_true]
        repeat (first|(with_reducible first|apply X1|apply X2|apply X5|apply X6|apply X8)|((with_reducible apply e_end);(simp;exact Red.rfl))|((first|((with_reducible apply O1);rfl)|((with_reducible apply O2);rfl));(simp (disch:=omega) [hlt, hlt2, rd_old _ hxd, hrow];exact Red.rfl);exact Red.rfl;(focus (first|(simp;done)|omega|(simp;omega))))|((with_reducible apply Z9);(simp (disch:=omega) [hlt, hlt2, rd_old _ hxd, hrow];exact Red.rfl)))
        (with_reducible apply e_call); (simp; exact Red.rfl); exact csf' _ (by rw [rd_old _ hid]; exact hs)
        rintro _ _ ⟨rfl, rfl⟩
        by_cases ht : thN true (⟨c, a1, a2, a3, a4, a5, a6, a7, a8, a9, a10⟩ : Sl) l = 0
        · repeat (first|(with_reducible first|apply X2|apply X5|apply X8|apply Y2)|((with_reducible apply e_end);(simp;exact Red.rfl))|((with_reducible apply O1);rfl;(simp (disch:=omega) [ht];exact Red.rfl);exact Red.rfl;(focus (first|(simp;done)|omega|(simp;omega))))|((with_reducible apply W3);(simp (disch:=omega) [ht];exact Red.rfl)))
          have hl1 : (shL xs l (i + 1)).length = 0 := by rw [hno ht]; exact hmm
          refine q_again ⟨i + 1, by omega⟩ (by dsimp only; omega) (.inr ?_)
          simp only [hl1, lV1, lO, if_true]
          exact le_take (G := [_]) (G2 := [_]) (by simp; omega) (by simp [Red, hxd]; omega)
        · repeat (first|(with_reducible first|apply X2|apply X8|apply Y2)|((with_reducible apply e_end);(simp;exact Red.rfl))|((with_reducible apply O1);rfl;(simp (disch:=omega) [ht];exact Red.rfl);exact Red.rfl;(focus (first|(simp;done)|omega|(simp;omega))))|((with_reducible apply Z9);(simp (disch:=omega) [ht];exact Red.rfl)))
          have hl1 : (shL xs l (i + 1)).length = 1 := by rw [hy ht]; simp [hmm]
          have hs1 := hsn ht
          simp only [avR_zero, List.nil_append, Nat.zero_add] at hs1
          have pl1 := (plain_r1 (shK xs l (i + 1))).plain 1
          rw [hs1]
          refine q_again ⟨i + 1, by omega⟩ (by dsimp only; omega) (.inr ?_)
          simp only [hl1, lV1, lO, if_neg (show ¬ 1 = 0 by omega)]
          exact le_to0 [0, 3] (by simp) (by simp [KeepAll, sh, AObj.ren, AV.ren, renL, hid, pl1.sc, pl1.ren]; omega) (by simp [sh, AV.ren, hid, hxd]; omega)
      · simp only [lV1, lO, if_neg h0]
        repeat (first|(with_reducible first|apply X1|apply X2|apply X5|apply X6|apply X8)|((with_reducible apply e_end);(simp;exact Red.rfl))|((first|((with_reducible apply O1);rfl)|((with_reducible apply O2);rfl));(simp (disch:=omega) [hlt, hlt2, rd_old _ hxd, hrow];exact Red.rfl);exact Red.rfl;(focus (first|(simp;done)|omega|(simp;omega))))|((with_reducible apply Z9);(simp (disch:=omega) [hlt, hlt2, rd_old _ hxd, hrow];exact Red.rfl)))
        (with_reducible apply e_call); (simp; exact Red.rfl); exact csf' _ (by rw [rd_old _ hid]; exact hs)
        rintro _ _ ⟨rfl, rfl⟩
        by_cases ht : thN true (⟨c, a1, a2, a3, a4, a5, a6, a7, a8, a9, a10⟩ : Sl) l = 0
        · repeat (first|(with_reducible first|apply X2|apply X5|apply X8|apply Y2)|((with_reducible apply e_end);(simp;exact Red.rfl))|((with_reducible apply O1);rfl;(simp (disch:=omega) [ht];exact Red.rfl);exact Red.rfl;(focus (first|(simp;done)|omega|(simp;omega))))|((with_reducible apply W3);(simp (disch:=omega) [ht];exact Red.rfl)))
          have hl1 : (shL xs l (i + 1)).length = m := by rw [hno ht]; exact hmm
          refine q_again ⟨i + 1, by omega⟩ (by dsimp only; omega) (.inr ?_)
          simp only [hl1, hkno ht, lV1, lO, if_neg h0]
          exact le_take (G := [_, _]) (G2 := [_]) (by simp [pl.sc] <;> omega) (by simp [Red, hxd] <;> omega)
        · have hm6 : m ≤ 6 := by omega
          have ll1 : (avR (r1 (shK xs l i)) m).length = m := by simpa using ll
          repeat (first|(with_reducible first|apply X2|apply X8|apply Y2)|((with_reducible apply e_end);(simp;exact Red.rfl))|((with_reducible apply O1);rfl;(simp (disch:=omega) [ht, ll1, pl.scal, take_all ll1];exact Red.rfl);exact Red.rfl;(focus (first|(simp;done)|omega|(simp;omega))))|((with_reducible apply Z9);(simp (disch:=omega) [ht, ll1, pl.scal, take_all ll1];exact Red.rfl)))
          have hl1 : (shL xs l (i + 1)).length = m + 1 := by rw [hy ht]; simp [hmm]
          rw [hsn ht]
          have pl1 := (plain_r1 (shK xs l (i + 1))).plain (m + 1)
          refine q_again ⟨i + 1, by omega⟩ (by dsimp only; omega) (.inr ?_)
          simp only [hl1, lV1, lO, if_neg (show ¬ m + 1 = 0 by omega)]
          exact le_to0 [0, 4] (by simp) (by simp [KeepAll, sh, AObj.ren, AV.ren, renL, hid, pl1.sc, pl1.ren]; omega) (by simp [sh, AV.ren, hid, hxd]; omega)
    · obtain rfl : i = xs.length := by omega
      generalize (shL xs l xs.length).length = m
      unfold lV1 lV lO
      by_cases h0 : m = 0
      · simp only [if_pos h0]
        repeat (first|(with_reducible first|apply X1|apply X2|apply X3|apply X4|apply X8|apply Y1|apply Y4|apply Y6)|((with_reducible apply e_end);(simp;exact Red.rfl))|((with_reducible apply O1);rfl;(simp (disch:=omega);exact Red.rfl);exact Red.rfl;(focus (first|(simp;done)|omega|(simp;omega))))|((with_reducible apply W3);(simp (disch:=omega);exact Red.rfl)))
        exact q_post (v' := .tuple [.nilslice, .int .i64 0]) (.inr rfl) (by simp; exact Red.rfl) (le_drop (by simp)) ⟨rfl, by simp⟩
      · simp only [if_neg h0]
        repeat (first|(with_reducible first|apply X1|apply X2|apply X3|apply X4|apply X8|apply Y1|apply Y4|apply Y6)|((with_reducible apply e_end);(simp;exact Red.rfl))|((with_reducible apply O1);rfl;(simp (disch:=omega);exact Red.rfl);exact Red.rfl;(focus (first|(simp;done)|omega|(simp;omega))))|((with_reducible apply W3);(simp (disch:=omega);exact Red.rfl)))
        have pl := (plain_r1 (shK xs l xs.length)).plain m
        exact q_post (v' := .tuple [.slice H.length 0 m 1 false, .int .i64 0]) (.inr rfl) (by simp; exact Red.rfl) (le_plain [1] _ (by simp) rfl (by simp; exact pl.o _) (by simp [sh, AV.ren, renL])) ⟨rfl, rfl⟩

end Go.Proofs
/- SlideShut, the law's contract. -/
namespace Go.Proofs
open Go.Abs
attribute [local simp] AOp.den AOpd.ev lk cellsOf rd_new rd_new0 rd_zero rd_succ wr_new wr_new0 wr_zero wr_succ splice fillA binA scal sliceCells List.length_append argsT AV.sc scL AObj.sc resV getAll AR.get AOp.slots opdSlots opdsSlots partSlots eqAt at_new0 at_new set_new0 set_new wrap64
set_option linter.unusedSimpArgs false
set_option linter.unusedVariables false
set_option maxHeartbeats 8000000 in
theorem c_lawSH (H : Heap) (l : List Str) (xs : List Sl) (id off xid xoff : Nat) (ex xex : Bool) (hs : rd H id off (l.length * 9) = some (l.flatMap Str.av)) (hx : rd H xid xoff (xs.length * 11) = some (xs.flatMap Sl.av))
    (_ : (xs.length : Int) ≤ 9223372036854775807) (hcs : ∀ s ∈ xs, 0 ≤ s.c ∧ s.c ≤ 255) :
    ACalls Try.prog F.law03_SlideShut [.agg [.slice id off l.length 9 ex], .slice xid xoff xs.length 11 xex] H (fun v _ => v = .bool true) := by
  have hid := rd_lt hs
  have hxd := rd_lt hx
  have ca : ∀ H, ACalls Try.prog F.law03_alive [] H (fun v h => v = .bool true ∧ h = H) := Try.true40
  have csh := fun hv h6 hk H' h1 h2 => c_Shut H' l id off ex xs xid xoff xex h1 hv h2 h6 hk
  refine acalls_of ok_law03_SlideShut rfl fun hcl => ?_
  unfold ac_law03_SlideShut
  simp only [argsT, Nat.zero_add, Nat.reduceAdd]
  repeat (first|(with_reducible first|apply X1|apply X2|apply X8)|((with_reducible apply e_end);(simp;exact Red.rfl))|((with_reducible apply O1);rfl;(simp (disch:=omega);exact Red.rfl);exact Red.rfl;(focus (first|(simp;done)|omega|(simp;omega)))))
  (with_reducible apply e_call); (simp; exact Red.rfl); exact ca _
  rintro _ _ ⟨rfl, rfl⟩
  repeat (first|(with_reducible first|apply X1|apply X2|apply X8)|((with_reducible apply e_end);(simp;exact Red.rfl))|((with_reducible apply O1);rfl;(simp (disch:=omega);exact Red.rfl);exact Red.rfl;(focus (first|(simp;done)|omega|(simp;omega)))))
  (with_reducible apply e_call); (simp; exact Red.rfl); exact c_great _ _ _ _ _ (by simp; omega)
  rintro _ _ ⟨rfl, rfl⟩
  by_cases h20 : 20 < l.length
  · repeat (first|(with_reducible first|apply X1|apply X2|apply X3|apply X8|apply X9)|((with_reducible apply e_end);(simp;exact Red.rfl))|((with_reducible apply O1);rfl;(simp (disch:=omega) [h20];exact Red.rfl);exact Red.rfl;(focus (first|(simp;done)|omega|(simp;omega))))|((with_reducible apply Z9);(simp (disch:=omega) [h20];exact Red.rfl))|((with_reducible apply Z2);(simp (disch:=omega) [h20];exact Red.rfl)))
    refine q_drop (.inr rfl) (by simp; exact Red.rfl) (by simp) rfl
  · repeat (first|((with_reducible apply O1);rfl;(simp (disch:=omega) [h20];exact Red.rfl);exact Red.rfl;(focus (first|(simp;done)|omega|(simp;omega))))|((with_reducible apply Z7);(simp (disch:=omega) [h20];exact Red.rfl)))
    (with_reducible apply e_call); (simp; exact Red.rfl); exact c_rTrack _ l id off ex (by rw [rd_old _ hid]; exact hs) (by omega)
    rintro _ _ ⟨rfl, b, rfl, hbv⟩
    cases b with
    | false =>
      repeat (first|(with_reducible first|apply X1|apply X2|apply X3|apply X8|apply X9)|((with_reducible apply e_end);(simp;exact Red.rfl))|((with_reducible apply O1);rfl;(simp (disch:=omega);exact Red.rfl);exact Red.rfl;(focus (first|(simp;done)|omega|(simp;omega))))|((with_reducible first|apply Z7|apply Z9);(simp (disch:=omega);exact Red.rfl))|((with_reducible apply Z2);(simp (disch:=omega);exact Red.rfl)))
      refine q_drop (.inr rfl) (by simp; exact Red.rfl) (by simp) rfl
    | true =>
      have hv := hbv.1 rfl
      by_cases h6 : 6 < xs.length
      · have h6' : (6 : Int) < xs.length := by omega
        repeat (first|(with_reducible first|apply X1|apply X2|apply X3|apply X8|apply X9)|((with_reducible apply e_end);(simp;exact Red.rfl))|((with_reducible apply O1);rfl;(simp (disch:=omega) [h6, h6'];exact Red.rfl);exact Red.rfl;(focus (first|(simp;done)|omega|(simp;omega))))|((with_reducible first|apply Z7|apply Z9);(simp (disch:=omega) [h6, h6'];exact Red.rfl))|((with_reducible apply Z2);(simp (disch:=omega) [h6, h6'];exact Red.rfl)))
        refine q_drop (.inr rfl) (by simp; exact Red.rfl) (by simp) rfl
      · have h6' : ¬ (6 : Int) < xs.length := by omega
        repeat (first|(with_reducible first|apply X1|apply X2|apply X5|apply X6|apply X8)|((with_reducible apply e_end);(simp;exact Red.rfl))|((with_reducible apply O1);rfl;(simp (disch:=omega) [h6, h6'];exact Red.rfl);exact Red.rfl;(focus (first|(simp;done)|omega|(simp;omega))))|((with_reducible apply Z7);(simp (disch:=omega) [h6, h6'];exact Red.rfl))|((with_reducible apply W3);(simp (disch:=omega) [h6, h6'];exact Red.rfl)))
        refine e_loop (ι := { i : Nat // i ≤ xs.length ∧ ∀ j (hj : j < xs.length), j < i → xs[j].ok })
          (fun i => [(1, .slice xid xoff xs.length 11 xex), (2, .ptr H.length 0), (5, .bool true), (37, .slice xid xoff xs.length 11 xex), (38, .int .i64 xs.length), (39, .int .i64 i.1)])
          (fun _ => H ++ [.cells [.slice id off l.length 9 ex] true]) (fun i => xs.length - i.1) ⟨0, by simp⟩ ?_ ?_
        · exact .inl rfl
        · rintro ⟨i, hi, hok⟩
          dsimp only
          by_cases hlt : i < xs.length
          · have hlt2 : (i : Int) < xs.length := by omega
            have hrow := rd_row Sl.av_length hx hlt
            have hcc := hcs _ (List.getElem_mem hlt)
            have crs := fun H' => c_rSled H' xs[i] hcc
            generalize hsl : xs[i] = s at hrow crs hcc
            obtain ⟨c, a1, a2, a3, a4, a5, a6, a7, a8, a9, a10⟩ := s
            simp only [Sl.av] at hrow crs
            repeat (first|(with_reducible first|apply X1|apply X2|apply X5|apply X6|apply X8)|((with_reducible apply e_end);(simp;exact Red.rfl))|((first|((with_reducible apply O1);rfl)|((with_reducible apply O2);rfl));(simp (disch:=omega) [hlt, hlt2, rd_old _ hxd, hrow];exact Red.rfl);exact Red.rfl;(focus (first|(simp;done)|omega|(simp;omega))))|((with_reducible apply Z9);(simp (disch:=omega) [hlt, hlt2, rd_old _ hxd, hrow];exact Red.rfl)))
            (with_reducible apply e_call); (simp; exact Red.rfl); exact crs _
            rintro _ _ ⟨rfl, b, rfl, hb⟩
            cases b with
            | false =>
              repeat (first|(with_reducible first|apply X1|apply X2|apply X3|apply X8|apply X9|apply Y3|apply Y5)|((with_reducible apply e_end);(simp;exact Red.rfl))|((with_reducible apply O1);rfl;(simp (disch:=omega);exact Red.rfl);exact Red.rfl;(focus (first|(simp;done)|omega|(simp;omega))))|((with_reducible apply Z9);(simp (disch:=omega);exact Red.rfl)))
              refine q_drop (.inr rfl) (by simp; exact Red.rfl) (by simp) rfl
            | true =>
              repeat (first|(with_reducible first|apply X2|apply X5|apply X8|apply Y2)|((with_reducible apply e_end);(simp;exact Red.rfl))|((with_reducible apply O1);rfl;(simp (disch:=omega);exact Red.rfl);exact Red.rfl;(focus (first|(simp;done)|omega|(simp;omega))))|((with_reducible apply W3);(simp (disch:=omega);exact Red.rfl)))
              refine q_again ⟨i + 1, by omega, fun j hj hji => ?_⟩ (by dsimp only; omega) (.inr ?_)
              · rcases Nat.lt_or_ge j i with h | h
                · exact hok j hj h
                · obtain rfl : j = i := by omega
                  rw [hsl]; exact hb.1 rfl
              · exact le_take (G := [_]) (G2 := [_]) (by simp; omega) (by simp [Red, hxd]; omega)
          · obtain rfl : i = xs.length := by omega
            have hk : ∀ j (hj : j < xs.length), xs[j].ok := fun j hj => hok j hj hj
            clear hok hlt hi
            repeat (first|(with_reducible first|apply X1|apply X2|apply X4|apply X8|apply Y1|apply Y4|apply Y6)|((with_reducible apply e_end);(simp;exact Red.rfl))|((with_reducible apply O1);rfl;(simp (disch:=omega);exact Red.rfl);exact Red.rfl;(focus (first|(simp;done)|omega|(simp;omega))))|((with_reducible apply W3);(simp (disch:=omega);exact Red.rfl)))
            (with_reducible apply e_call); (simp; exact Red.rfl); exact csh hv (by omega) hk _ (by simp only [List.append_assoc, rd_old _ hid]; exact hs) (by simp only [List.append_assoc, rd_old _ hxd]; exact hx)
            rintro _ _ ⟨rfl, rfl⟩
            repeat (first|(with_reducible first|apply X1|apply X2|apply X5|apply X6|apply X8)|((with_reducible apply e_end);(simp;exact Red.rfl))|((with_reducible apply O1);rfl;(simp (disch:=omega);exact Red.rfl);exact Red.rfl;(focus (first|(simp;done)|omega|(simp;omega))))|((with_reducible apply W3);(simp (disch:=omega);exact Red.rfl)))
            have cnm := fun H' s h hk' => c_Names H' l id off ex s h hv hk'
            have csf := fun H' s h hk' => c_Safe H' l id off ex s h hv hk'
            simp only [Sl.av, List.cons_append, List.nil_append] at csf cnm
            have pl := (plain_r1 (shK xs l xs.length)).plain (shL xs l xs.length).length
            have ll := (plain_r1 (shK xs l xs.length)).length (shL xs l xs.length).length
            have hM := shL_le xs l xs.length
            refine e_loop (ι := { i : Nat // i ≤ xs.length })
              (fun i => [(2, .ptr H.length 0), (5, .bool true), (8, lV (H ++ [.cells [.slice id off l.length 9 ex] true]) (shL xs l xs.length).length), (10, .int .i64 (shL xs l i.1).length), (56, .slice xid xoff xs.length 11 xex), (57, .int .i64 xs.length), (58, .int .i64 i.1)])
              (fun _ => H ++ .cells [.slice id off l.length 9 ex] true :: lO (shL xs l xs.length).length (shK xs l xs.length)) (fun i => xs.length - i.1) ⟨0, by simp⟩ ?_ ?_
            · exact .inl rfl
            · rintro ⟨i, hi⟩
              dsimp only
              by_cases hlt : i < xs.length
              · have hlt2 : (i : Int) < xs.length := by omega
                have hrow := rd_row Sl.av_length hx hlt
                have hst := slAt_eq hlt
                rw [← hst] at hrow
                have hki := hk i hlt
                rw [← hst] at hki
                have hno := shL_no (xs := xs) (l := l) (i := i)
                have hy : thN true (slAt xs i) l ≠ 0 → (shL xs l (i + 1)).length = (shL xs l i).length + 1 := fun h => by rw [shL_yes h]; simp
                have ha : thN true (slAt xs i) l ≠ 0 → (shL xs l i).length < (shL xs l xs.length).length ∧ shK xs l xs.length (shL xs l i).length = i := shL_at hlt
                have hn : thN true (slAt xs i) l = 0 → (shL xs l i).length < (shL xs l xs.length).length → shK xs l xs.length (shL xs l i).length ≠ i := shL_not
                have hmi := shL_len_le xs l hi
                have hrd : (shL xs l i).length < (shL xs l xs.length).length → ((avR (r1 (shK xs l xs.length)) (shL xs l xs.length).length).drop (shL xs l i).length).take 1 = [.int .i64 (shK xs l xs.length (shL xs l i).length)] := fun h => by
                  have := (plain_r1 (shK xs l xs.length)).row h
                  simpa [r1] using this
                generalize hsl : slAt xs i = s at *
                have csf' := fun H' h => csf H' s h hki
                have cnm' := fun H' h => cnm H' s h hki
                have hthc : thN true s l ≠ 0 → thC true s l < l.length := fun h => (thC_is h).1
                obtain ⟨c, a1, a2, a3, a4, a5, a6, a7, a8, a9, a10⟩ := s
                simp only [Sl.av] at hrow
                dsimp only at csf' cnm'
                generalize hkk : shK xs l xs.length = K at *
                generalize hss : shL xs l xs.length = L at *
                generalize hmm : (shL xs l i).length = m at *
                by_cases h0 : L.length = 0
                · have ht : thN true (⟨c, a1, a2, a3, a4, a5, a6, a7, a8, a9, a10⟩ : Sl) l = 0 := by
                    rcases Nat.eq_zero_or_pos (thN true (⟨c, a1, a2, a3, a4, a5, a6, a7, a8, a9, a10⟩ : Sl) l) with h | h
                    · exact h
                    · have := (ha (by omega)).1; omega
                  have hm0 : m = 0 := by omega
                  subst hm0
                  have hl1 : (shL xs l (i + 1)).length = 0 := by rw [hno ht]; exact hmm
                  simp only [h0, lV, lO, if_true]
                  repeat (first|(with_reducible first|apply X1|apply X2|apply X5|apply X6|apply X8)|((with_reducible apply e_end);(simp;exact Red.rfl))|((first|((with_reducible apply O1);rfl)|((with_reducible apply O2);rfl));(simp (disch:=omega) [hlt, hlt2, rd_old _ hxd, hrow];exact Red.rfl);exact Red.rfl;(focus (first|(simp;done)|omega|(simp;omega))))|((with_reducible apply Z9);(simp (disch:=omega) [hlt, hlt2, rd_old _ hxd, hrow];exact Red.rfl)))
                  (with_reducible apply e_call); (simp; exact Red.rfl); exact csf' _ (by rw [rd_old _ hid]; exact hs)
                  rintro _ _ ⟨rfl, rfl⟩
                  repeat (first|(with_reducible first|apply X1|apply X2|apply X8)|((with_reducible apply e_end);(simp;exact Red.rfl))|((with_reducible apply O1);rfl;(simp (disch:=omega);exact Red.rfl);exact Red.rfl;(focus (first|(simp;done)|omega|(simp;omega)))))
                  (with_reducible apply e_call); (simp; exact Red.rfl); exact cnm' _ (by rw [rd_old _ hid]; exact hs)
                  rintro _ _ ⟨rfl, hnm⟩
                  rcases hnm with ⟨_, rfl⟩ | ⟨h, _⟩
                  · repeat (first|(with_reducible first|apply X1|apply X2|apply X5|apply X8|apply Y2)|((with_reducible apply e_end);(simp;exact Red.rfl))|((with_reducible apply O1);rfl;(simp (disch:=omega) [knF, ht];exact Red.rfl);exact Red.rfl;(focus (first|(simp;done)|omega|(simp;omega))))|((with_reducible apply Z7);(simp (disch:=omega) [knF, ht];exact Red.rfl))|((with_reducible apply Z1);(simp (disch:=omega) [knF, ht];exact Red.rfl))|((with_reducible first|apply W1|apply W3);(simp (disch:=omega) [knF, ht];exact Red.rfl)))
                    refine q_again ⟨i + 1, by omega⟩ (by dsimp only; omega) (.inr ?_)
                    simp only [hl1]
                    exact le_take (G := [_]) (G2 := [_]) (by simp; omega) (by simp [Red, hxd]; omega)
                  · exact absurd ht h
                · simp only [lV, lO, if_neg h0]
                  repeat (first|(with_reducible first|apply X1|apply X2|apply X5|apply X6|apply X8)|((with_reducible apply e_end);(simp;exact Red.rfl))|((first|((with_reducible apply O1);rfl)|((with_reducible apply O2);rfl));(simp (disch:=omega) [hlt, hlt2, rd_old _ hxd, hrow];exact Red.rfl);exact Red.rfl;(focus (first|(simp;done)|omega|(simp;omega))))|((with_reducible apply Z9);(simp (disch:=omega) [hlt, hlt2, rd_old _ hxd, hrow];exact Red.rfl)))
                  (with_reducible apply e_call); (simp; exact Red.rfl); exact csf' _ (by rw [rd_old _ hid]; exact hs)
                  rintro _ _ ⟨rfl, rfl⟩
                  repeat (first|(with_reducible first|apply X1|apply X2|apply X8)|((with_reducible apply e_end);(simp;exact Red.rfl))|((with_reducible apply O1);rfl;(simp (disch:=omega);exact Red.rfl);exact Red.rfl;(focus (first|(simp;done)|omega|(simp;omega)))))
                  (with_reducible apply e_call); (simp; exact Red.rfl); exact cnm' _ (by rw [rd_old _ hid]; exact hs)
                  rintro _ _ ⟨rfl, hnm⟩
                  rcases hnm with ⟨ht, rfl⟩ | ⟨ht, rfl⟩
                  · have hl1 : (shL xs l (i + 1)).length = m := by rw [hno ht]; exact hmm
                    by_cases hmL : m < L.length
                    · have hmL2 : (m : Int) < L.length := by omega
                      have le1 : m + 1 ≤ L.length := hmL
                      repeat (first|(with_reducible first|apply X1|apply X2|apply X5|apply X8|apply Y2)|((with_reducible apply e_end);(simp;exact Red.rfl))|((with_reducible apply O1);rfl;(simp (disch:=omega) [knF, ht, hmL, hmL2, hrd hmL, pl, ll, le1, hn ht hmL];exact Red.rfl);exact Red.rfl;(focus (first|(simp;done)|omega|(simp;omega))))|((with_reducible apply Z7);(simp (disch:=omega) [knF, ht, hmL, hmL2, hrd hmL, pl, ll, le1, hn ht hmL];exact Red.rfl))|((with_reducible apply Z1);(simp (disch:=omega) [knF, ht, hmL, hmL2, hrd hmL, pl, ll, le1, hn ht hmL];exact Red.rfl))|((with_reducible first|apply W1|apply W3);(simp (disch:=omega) [knF, ht, hmL, hmL2, hrd hmL, pl, ll, le1, hn ht hmL];exact Red.rfl)))
                      refine q_again ⟨i + 1, by omega⟩ (by dsimp only; omega) (.inr ?_)
                      simp only [hl1]
                      exact le_take (G := [_, _]) (G2 := [_]) (by simp [AObj.sc, pl.sc]; omega) (by simp [Red, hxd]; omega)
                    · have hmL2 : ¬ (m : Int) < L.length := by omega
                      repeat (first|(with_reducible first|apply X1|apply X2|apply X5|apply X8|apply Y2)|((with_reducible apply e_end);(simp;exact Red.rfl))|((with_reducible apply O1);rfl;(simp (disch:=omega) [knF, ht, hmL, hmL2];exact Red.rfl);exact Red.rfl;(focus (first|(simp;done)|omega|(simp;omega))))|((with_reducible apply Z7);(simp (disch:=omega) [knF, ht, hmL, hmL2];exact Red.rfl))|((with_reducible apply Z1);(simp (disch:=omega) [knF, ht, hmL, hmL2];exact Red.rfl))|((with_reducible first|apply W1|apply W3);(simp (disch:=omega) [knF, ht, hmL, hmL2];exact Red.rfl)))
                      refine q_again ⟨i + 1, by omega⟩ (by dsimp only; omega) (.inr ?_)
                      simp only [hl1]
                      exact le_take (G := [_, _]) (G2 := [_]) (by simp [AObj.sc, pl.sc]; omega) (by simp [Red, hxd]; omega)
                  · have hl1 : (shL xs l (i + 1)).length = m + 1 := hy ht
                    obtain ⟨hmL, hKm⟩ := ha ht
                    have hmL2 : (m : Int) < L.length := by omega
                    have hc1 := hthc ht
                    have hc2 : ¬ ((l.length : Nat) : Int) ≤ (thC true (⟨c, a1, a2, a3, a4, a5, a6, a7, a8, a9, a10⟩ : Sl) l : Nat) := by omega
                    have hkn : ¬ knF (⟨c, a1, a2, a3, a4, a5, a6, a7, a8, a9, a10⟩ : Sl) l = 2 := by unfold knF; rw [if_neg ht]; split <;> omega
                    generalize hkv : knF (⟨c, a1, a2, a3, a4, a5, a6, a7, a8, a9, a10⟩ : Sl) l = kv at *
                    generalize hcv : thC true (⟨c, a1, a2, a3, a4, a5, a6, a7, a8, a9, a10⟩ : Sl) l = cv at *
                    have hc3 : ¬ (cv : Int) < 0 := by omega
                    have le1 : m + 1 ≤ L.length := hmL
                    repeat (first|(with_reducible first|apply X1|apply X2|apply X5|apply X8|apply Y2)|((with_reducible apply e_end);(simp;exact Red.rfl))|((with_reducible apply O1);rfl;(simp (disch:=omega) [hmL, hmL2, hrd hmL, pl, ll, le1, hKm, hkn, hc2, hc3];exact Red.rfl);exact Red.rfl;(focus (first|(simp;done)|omega|(simp;omega))))|((with_reducible first|apply Z7|apply Z9);(simp (disch:=omega) [hmL, hmL2, hrd hmL, pl, ll, le1, hKm, hkn, hc2, hc3];exact Red.rfl))|((with_reducible apply W3);(simp (disch:=omega) [hmL, hmL2, hrd hmL, pl, ll, le1, hKm, hkn, hc2, hc3];exact Red.rfl)))
                    refine q_again ⟨i + 1, by omega⟩ (by dsimp only; omega) (.inr ?_)
                    simp only [hl1]
                    exact le_take (G := [_, _]) (G2 := [_]) (by simp [AObj.sc, pl.sc]; omega) (by simp [Red, hxd]; omega)
              · obtain rfl : i = xs.length := by omega
                by_cases h0 : (shL xs l xs.length).length = 0
                · simp only [h0, lV, lO, if_true]
                  repeat (first|(with_reducible first|apply X1|apply X2|apply X3|apply X4|apply X8|apply Y1|apply Y4|apply Y6)|((with_reducible apply e_end);(simp;exact Red.rfl))|((with_reducible apply O1);rfl;(simp (disch:=omega);exact Red.rfl);exact Red.rfl;(focus (first|(simp;done)|omega|(simp;omega))))|((with_reducible apply Z7);(simp (disch:=omega);exact Red.rfl))|((with_reducible apply W3);(simp (disch:=omega);exact Red.rfl)))
                  refine q_drop (.inr rfl) (by simp; exact Red.rfl) (by simp) rfl
                · simp only [lV, lO, if_neg h0]
                  repeat (first|(with_reducible first|apply X1|apply X2|apply X3|apply X4|apply X8|apply Y1|apply Y4|apply Y6)|((with_reducible apply e_end);(simp;exact Red.rfl))|((with_reducible apply O1);rfl;(simp (disch:=omega);exact Red.rfl);exact Red.rfl;(focus (first|(simp;done)|omega|(simp;omega))))|((with_reducible apply Z7);(simp (disch:=omega);exact Red.rfl))|((with_reducible apply W3);(simp (disch:=omega);exact Red.rfl)))
                  refine q_drop (.inr rfl) (by simp; exact Red.rfl) (by simp) rfl
end Go.Proofs
