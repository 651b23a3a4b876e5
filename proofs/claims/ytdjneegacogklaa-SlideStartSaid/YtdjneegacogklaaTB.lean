/- Several texts as one. -/
import Derived.Test.YtdjneegacogklaaTA
import Derived.Test.YtdjneegacogklaaSC
import Derived.Test.YtdjneegacogklaaRunSlideAlive
/- Curves that throw a sled. -/
namespace Go.Proofs
open Go.Abs
attribute [local simp] AOp.den AOpd.ev lk cellsOf rd_new rd_new0 rd_zero rd_succ wr_new wr_new0 wr_zero wr_succ splice fillA binA scal sliceCells List.length_append argsT AV.sc scL AObj.sc resV getAll AR.get AOp.slots opdSlots opdsSlots partSlots eqAt at_new0 at_new set_new0 set_new wrap64
set_option linter.unusedSimpArgs false
set_option linter.unusedVariables false
def mpV (w : Nat → Int) (xs : List Nat) : List (AV × AV) := xs.map fun (j : Nat) => (.int .i64 (j : Int), .int .i64 (w j))
def moX (w : Nat → Int) (xs : List Nat) (c : Nat) : AObj := .other (.map (mpV w xs) xs c)
theorem keyEq_nat (a b : Nat) : keyEq (.one .int) (.int .i64 (a : Int)) (.int .i64 (b : Int)) = some (decide (a = b)) := by
  have e : ((a : Int) = b) = (a = b) := propext Int.ofNat_inj
  simp only [keyEq, eqCell, if_true, e]
theorem findV_not (w : Nat → Int) (k : Nat) : ∀ xs : List Nat, ¬ k ∈ xs → findA (.one .int) (.int .i64 (k : Int)) (mpV w xs) = some none
  | [], _ => rfl
  | a :: r, h => by
    have h1 : ¬ k = a := fun e => h (by simp [e])
    have h2 := findV_not w k r (fun e => h (List.mem_cons_of_mem _ e))
    have e : mpV w (a :: r) = (.int .i64 (a : Int), .int .i64 (w a)) :: mpV w r := rfl
    rw [e]
    simp only [findA, keyEq_nat, h1, decide_false, h2]
theorem findV_mem (w : Nat → Int) (k : Nat) : ∀ xs : List Nat, k ∈ xs → ∃ p : Nat, xs[p]? = some k ∧ findA (.one .int) (.int .i64 (k : Int)) (mpV w xs) = some (some p)
  | [], h => by cases h
  | a :: r, h => by
    have e : mpV w (a :: r) = (.int .i64 (a : Int), .int .i64 (w a)) :: mpV w r := rfl
    by_cases h1 : k = a
    · subst h1
      exact ⟨0, rfl, by rw [e]; simp only [findA, keyEq_nat, decide_true]⟩
    · have h2 : k ∈ r := by
        rcases List.mem_cons.1 h with h | h
        · exact absurd h h1
        · exact h
      obtain ⟨p, q1, q2⟩ := findV_mem w k r h2
      exact ⟨p + 1, by simpa using q1, by rw [e]; simp only [findA, keyEq_nat, h1, decide_false, q2]⟩
theorem mpV_get (w : Nat → Int) {xs : List Nat} {p k : Nat} (h : xs[p]? = some k) : (mpV w xs)[p]? = some (.int .i64 (k : Int), .int .i64 (w k)) := by
  simp [mpV, h]
theorem erase_map {α β : Type} (f : α → β) : ∀ (xs : List α) (p : Nat), (xs.map f).eraseIdx p = (xs.eraseIdx p).map f
  | [], _ => rfl
  | _ :: _, 0 => rfl
  | a :: xs, p + 1 => by simp only [List.map_cons, List.eraseIdx_cons_succ, erase_map f xs p]
theorem erase_nd {k : Nat} : ∀ {xs : List Nat} {p : Nat}, xs.Nodup → xs[p]? = some k → xs.eraseIdx p = xs.filter fun j => decide (j ≠ k)
  | [], p, _, h => by simp at h
  | a :: r, 0, hd, h => by
    simp at h; subst h
    have h1 := List.nodup_cons.1 hd
    rw [List.eraseIdx_cons_zero, List.filter_cons_of_neg (by simp)]
    exact (List.filter_eq_self.2 fun x hx => by
      have : x ≠ a := by rintro rfl; exact h1.1 hx
      simpa using this).symm
  | a :: r, p + 1, hd, h => by
    have h1 := List.nodup_cons.1 hd
    have hk : k ∈ r := List.mem_of_getElem? (by simpa using h)
    have hne : a ≠ k := by rintro rfl; exact h1.1 hk
    rw [List.eraseIdx_cons_succ, List.filter_cons_of_pos (by simpa using hne), erase_nd h1.2 (by simpa using h)]
theorem den_getV {m i : AOpd} {ev : AOpd → AV} {h : Heap} {id k c : Nat} {w : Nat → Int} {xs : List Nat} (hm : ev m = .map id) (hi : ev i = .int .i64 (k : Int)) (hh : h[id]? = some (moX w xs c)) (hk : k ∈ xs) :
    (AOp.mapGet false (.int .i64 0) (.one .int) m i).den ev h = .ok True (.int .i64 (w k)) h := by
  obtain ⟨p, q1, q2⟩ := findV_mem w k xs hk
  simp only [AOp.den, AOp.fx, hm, hi, keyEq_nat, mapAt, hh, moX, Option.isSome_some, if_true, q2, mpV_get w q1]
  simp
theorem den_putV {m i x : AOpd} {ev : AOpd → AV} {h : Heap} {id k c : Nat} {w : Nat → Int} {xs : List Nat} (hm : ev m = .map id) (hi : ev i = .int .i64 (k : Int)) (hx : ev x = .int .i64 (w k)) (hh : h[id]? = some (moX w xs c)) (hk : ¬ k ∈ xs) (hc : c = k) :
    (AOp.mapPut (.one .int) m i x).den ev h = .ok True (.tuple []) (h.set id (moX w (xs ++ [k]) (c + 1))) := by
  simp only [AOp.den, AOp.fx, hm, hi, hx, keyEq_nat, hh, moX, Option.isSome_some, if_true, findV_not w k xs hk]
  simp [mpV, hc]
theorem den_delV {m i : AOpd} {ev : AOpd → AV} {h : Heap} {id k c : Nat} {w : Nat → Int} {xs : List Nat} (hm : ev m = .map id) (hi : ev i = .int .i64 (k : Int)) (hh : h[id]? = some (moX w xs c)) (hk : k ∈ xs) (hd : xs.Nodup) :
    (AOp.mapDel (.one .int) m i).den ev h = .ok True (.tuple []) (h.set id (moX w (xs.filter fun j => decide (j ≠ k)) c)) := by
  obtain ⟨p, q1, q2⟩ := findV_mem w k xs hk
  have e : (mpV w xs).eraseIdx p = mpV w (xs.filter fun j => decide (j ≠ k)) := by
    rw [← erase_nd hd q1]; simp only [mpV, erase_map]
  simp only [AOp.den, AOp.fx, hm, hi, keyEq_nat, hh, moX, Option.isSome_some, if_true, q2, e, erase_nd hd q1]
/-- Whether a curve throws a sled. -/
def thrB (t : Bool) (s : Sl) (l : List Str) (i : Nat) : Bool := decide ((strAt l i).side ≠ 0 ∧ (strAt l i).wall < htF (wiF (hd t s l) i) (dn t (strAt l i).rLo (strAt l i).rHi) (up t s.t1 s.t2))
/-- All curves that do. -/
def thL (t : Bool) (s : Sl) (l : List Str) : List Nat := (List.range l.length).filter (thrB t s l)
/-- What is left of all stretches when some were looked at. -/
def leL (th : Nat → Bool) (n i : Nat) : List Nat := (List.range n).filter fun j => decide (i ≤ j) || th j
theorem le_zero (th : Nat → Bool) (n : Nat) : leL th n 0 = List.range n := List.filter_eq_self.2 fun _ _ => by simp
theorem le_end (th : Nat → Bool) (n : Nat) : leL th n n = (List.range n).filter th := List.filter_congr fun j hj => by
  have := List.mem_range.1 hj
  simp [show ¬ n ≤ j by omega]
theorem le_keepT {th : Nat → Bool} {n i : Nat} (h : th i = true) : leL th n (i + 1) = leL th n i := List.filter_congr fun j _ => by
  by_cases hj : j = i
  · subst hj; simp [h]
  · have : (i + 1 ≤ j) = (i ≤ j) := propext (by omega)
    simp [this]
theorem le_dropF {th : Nat → Bool} {n i : Nat} (h : th i = false) : (leL th n i).filter (fun j => decide (j ≠ i)) = leL th n (i + 1) := by
  unfold leL
  rw [List.filter_filter]
  refine List.filter_congr fun j _ => ?_
  by_cases hj : j = i
  · subst hj; simp [h]
  · have : (i + 1 ≤ j) = (i ≤ j) := propext (by omega)
    simp [this, hj]
theorem le_mem {th : Nat → Bool} {n i : Nat} (h : i < n) : i ∈ leL th n i := List.mem_filter.2 ⟨List.mem_range.2 h, by simp⟩
theorem le_nd (th : Nat → Bool) (n i : Nat) : (leL th n i).Nodup := List.Pairwise.filter _ List.nodup_range

theorem c_throws (t : Bool) (H : Heap) (s : Sl) (l : List Str) (id off : Nat) (ex : Bool) (hs : rd H id off (l.length * 9) = some (l.flatMap Str.av)) (hv : validL l) (hk : s.ok) (i : Nat) (hi : i < l.length) (x : Int) (hx : 0 ≤ x ∧ x ≤ 260000) (hc : (strAt l i).side ≠ 0) :
    ACalls Try.prog F.slide_truth_throws [.agg (trv t s (.slice id off l.length 9 ex)), .int .i64 i, .int .i64 x] H (fun v h' => v = .bool (decide ((strAt l i).wall < htF x (dn t (strAt l i).rLo (strAt l i).rHi) (up t s.t1 s.t2))) ∧ h' = H) := by
  have hid := rd_lt hs
  have chh := fun H' h => c_height t H' s l id off ex h hk i hi x hx (curve_rad hv hi hc)
  have hrow := rd_row Str.av_length hs hi
  have hst := strAt_eq hi
  have hi2 : (i : Int) < l.length := by omega
  generalize htF x (dn t (strAt l i).rLo (strAt l i).rHi) (up t s.t1 s.t2) = ht at chh ⊢
  rw [hst]
  generalize hsi : l[i] = st at hrow
  obtain ⟨b1, b2, b3, b4, b5, b6, b7, b8, b9⟩ := st
  simp only [Str.av] at hrow
  have hx2 : rd H id (off + i * 9 + 8) 1 = some [.int .i64 b9] := by simpa using rd_sub hrow (show 8 + 1 ≤ 9 by omega)
  simp only [trv, Sl.av, List.cons_append, List.nil_append] at chh ⊢
  refine acalls_of ok_slide_truth_throws rfl fun hcl => ?_
  unfold ac_slide_truth_throws
  simp only [argsT, Nat.zero_add, Nat.reduceAdd]
  repeat (first|(with_reducible first|apply X1|apply X2|apply X8|apply Y9)|((with_reducible apply e_end);(simp;exact Red.rfl))|((first|((with_reducible apply O1);rfl)|((with_reducible apply P1);rfl)|((with_reducible apply P2);rfl));(simp (disch:=omega);exact Red.rfl);exact Red.rfl;(focus (first|(simp;done)|omega|(simp;omega)))))
  (with_reducible apply d_call); (simp; exact Red.rfl); exact chh _ (by rw [rd_old _ hid]; exact hs); (focus (first | (simp; done) | (simp; omega)))
  repeat (first|(with_reducible first|apply X3|apply X8)|((with_reducible apply d_end);(simp;exact Red.rfl))|((with_reducible apply P1);rfl;(simp (disch:=omega) [rd_old _ hid, hx2, hi, hi2];exact Red.rfl);exact Red.rfl;(focus (first|(simp;done)|omega|(simp;omega))))|((with_reducible apply P6);rfl;(simp (disch:=omega) [rd_old _ hid, hx2, hi, hi2];exact Red.rfl);exact Red.rfl;(focus (first|(simp [pr];done)|(simp [pr];omega)))))
  refine q_drop (.inr rfl) (by simp; exact Red.rfl) (by simp) ⟨rfl, rfl⟩
end Go.Proofs
/- Who may be thrown. -/
namespace Go.Proofs
open Go.Abs
attribute [local simp] AOp.den AOpd.ev lk cellsOf rd_new rd_new0 rd_zero rd_succ wr_new wr_new0 wr_zero wr_succ splice fillA binA scal sliceCells List.length_append argsT AV.sc scL AObj.sc resV getAll AR.get AOp.slots opdSlots opdsSlots partSlots eqAt at_new0 at_new set_new0 set_new wrap64
set_option linter.unusedSimpArgs false
set_option linter.unusedVariables false
def thK (t : Bool) (s : Sl) (l : List Str) (p : Nat) : Int := ((thL t s l).getD p 0 : Nat)
set_option maxHeartbeats 2000000 in
theorem c_throwing (t : Bool) (H : Heap) (s : Sl) (l : List Str) (id off : Nat) (ex : Bool) (hs : rd H id off (l.length * 9) = some (l.flatMap Str.av)) (hv : validL l) (hk : s.ok) :
    ACalls Try.prog F.slide_truth_throwing [.agg (trv t s (.slice id off l.length 9 ex))] H (fun v h' => v = lV H (thL t s l).length ∧ h' = H ++ lO (thL t s l).length (thK t s l)) := by
  have hid := rd_lt hs
  have h12 := hv.1
  have cw := fun H' h => c_swithin t H' s l id off ex h hv hk
  have cth := fun i hi hc H' h x hx => c_throws t H' s l id off ex h hv hk i hi x hx hc
  have wl := (plain_r1 (wiF (hd t s l))).length l.length
  have plW := (plain_r1 (wiF (hd t s l))).plain l.length
  simp only [trv, Sl.av, List.cons_append, List.nil_append] at cw cth ⊢
  refine acalls_of ok_slide_truth_throwing rfl fun hcl => ?_
  unfold ac_slide_truth_throwing
  simp only [argsT, Nat.zero_add, Nat.reduceAdd]
  repeat (first|(with_reducible first|apply X1|apply X2|apply X8)|((with_reducible apply e_end);(simp;exact Red.rfl))|((with_reducible apply O1);rfl;(simp (disch:=omega);exact Red.rfl);exact Red.rfl;(focus (first|(simp;done)|omega|(simp;omega)))))
  (with_reducible apply e_call); (simp; exact Red.rfl); exact cw _ (by rw [rd_old _ hid]; exact hs)
  rintro _ _ ⟨rfl, rfl⟩
  repeat (first|(with_reducible first|apply X6|apply X8)|((with_reducible apply e_end);(simp;exact Red.rfl))|((with_reducible apply O1);rfl;(simp (disch:=omega);exact Red.rfl);exact Red.rfl;(focus (first|(simp;done)|omega|(simp;omega)))))
  refine e_loop (ι := { i : Nat // i ≤ l.length })
    (fun i => [(1, .ptr H.length 0), (3, .map (H.length + 1)), (9, .slice (H.length + 2) 0 l.length 1 true), (10, .int .i64 l.length), (11, .int .i64 i.1)])
    (fun i => H ++ [.cells [.int .u8 s.c, .int .i64 s.s1, .int .i64 s.s2, .int .i64 s.r1, .int .i64 s.r2, .int .i64 s.d1, .int .i64 s.d2, .int .i64 s.w1, .int .i64 s.w2, .int .i64 s.t1, .int .i64 s.t2, .slice id off l.length 9 ex, .fn (.func (moF t)) [] [], .fn (.func (leF t)) [] []] true, moX (wiF (hd t s l)) (List.range i.1) i.1, .cells (avR (r1 (wiF (hd t s l))) l.length) true]) (fun i => l.length - i.1) ⟨0, by simp⟩ ?_ ?_
  · exact .inl rfl
  · rintro ⟨i, hi⟩
    dsimp only
    by_cases hlt : i < l.length
    · have hlt2 : (i : Int) < l.length := by omega
      have le1 : i + 1 ≤ l.length := hlt
      have q1 : ((avR (r1 (wiF (hd t s l))) l.length).drop i).take 1 = [.int .i64 (wiF (hd t s l) i)] := by
        simpa [r1] using (plain_r1 (wiF (hd t s l))).part (n := l.length) (i := i) (c := 0) (m := 1) hlt (by omega)
      repeat (first|(with_reducible first|apply X1|apply X2|apply X5|apply X6|apply X8)|((with_reducible apply e_end);(simp;exact Red.rfl))|((with_reducible apply O1);rfl;(simp (disch:=omega) [hlt, hlt2, le1, q1, wl];exact Red.rfl);exact Red.rfl;(focus (first|(simp;done)|omega|(simp;omega))))|((with_reducible apply Z9);(simp (disch:=omega) [hlt, hlt2, le1, q1, wl];exact Red.rfl)))
      refine e_do (op := .mapPut _ _ _ _) rfl (den_putV (k := i) (w := wiF (hd t s l)) (xs := List.range i) (c := i) rfl rfl rfl (by rw [at_new]; rfl) (by simp) rfl) Red.rfl trivial ?_
      rw [set_new, ← List.range_succ]
      repeat (first|(with_reducible first|apply X2|apply X8|apply Y2)|((with_reducible apply e_end);(simp;exact Red.rfl))|((with_reducible apply O1);rfl;(simp (disch:=omega);exact Red.rfl);exact Red.rfl;(focus (first|(simp;done)|omega|(simp;omega)))))
      exact q_again ⟨i + 1, by omega⟩ (by dsimp only; omega) (.inl rfl)
    · obtain rfl : i = l.length := by omega
      clear hlt hi
      repeat (first|(with_reducible first|apply X1|apply X2|apply X4|apply X6|apply X8|apply Y1|apply Y4|apply Y6)|((with_reducible apply e_end);(simp;exact Red.rfl))|((with_reducible apply O1);rfl;(simp (disch:=omega);exact Red.rfl);exact Red.rfl;(focus (first|(simp;done)|omega|(simp;omega))))|((with_reducible apply W3);(simp (disch:=omega);exact Red.rfl)))
      rw [← le_zero (thrB t s l)]
      refine e_loop (ι := { i : Nat // i ≤ l.length })
        (fun i => [(1, .ptr H.length 0), (3, .map (H.length + 1)), (23, .int .i64 l.length), (24, .int .i64 i.1)])
        (fun i => H ++ [.cells [.int .u8 s.c, .int .i64 s.s1, .int .i64 s.s2, .int .i64 s.r1, .int .i64 s.r2, .int .i64 s.d1, .int .i64 s.d2, .int .i64 s.w1, .int .i64 s.w2, .int .i64 s.t1, .int .i64 s.t2, .slice id off l.length 9 ex, .fn (.func (moF t)) [] [], .fn (.func (leF t)) [] []] true, moX (wiF (hd t s l)) (leL (thrB t s l) l.length i.1) l.length, .cells (avR (r1 (wiF (hd t s l))) l.length) true]) (fun i => l.length - i.1) ⟨0, by simp⟩ ?_ ?_
      · exact .inl rfl
      · rintro ⟨i, hi⟩
        dsimp only
        by_cases hlt : i < l.length
        · have hlt2 : (i : Int) < l.length := by omega
          have hx := rd_row Str.av_length hs hlt
          have hst := strAt_eq hlt
          rw [← hst] at hx
          have cb := wi_bd hv hk t hlt
          have hsr := str_rad hv hlt
          have cst := fun H' b hb => c_straight H' (strAt l i) (b := b) hb
          have cth := cth i hlt
          have hthr : thrB t s l i = decide ((strAt l i).side ≠ 0 ∧ (strAt l i).wall < htF (wiF (hd t s l) i) (dn t (strAt l i).rLo (strAt l i).rHi) (up t s.t1 s.t2)) := rfl
          generalize strAt l i = st at hx hsr cst cth hthr
          obtain ⟨a1, a2, a3, a4, a5, a6, a7, a8, a9⟩ := st
          simp only [Str.av] at hx cst
          dsimp only at hsr cst cth hthr
          repeat (first|(with_reducible first|apply X1|apply X2|apply X5|apply X6|apply X8)|((with_reducible apply e_end);(simp;exact Red.rfl))|((with_reducible apply O1);rfl;(simp (disch:=omega) [hlt, hlt2, rd_old _ hid, hx];exact Red.rfl);exact Red.rfl;(focus (first|(simp;done)|omega|(simp;omega))))|((with_reducible apply Z9);(simp (disch:=omega) [hlt, hlt2, rd_old _ hid, hx];exact Red.rfl)))
          by_cases hside : a8 = 0
          · (with_reducible apply e_call); (simp; exact Red.rfl); exact cst _ true (by simp [hsr, hside])
            rintro _ _ ⟨rfl, rfl⟩
            repeat (first|(with_reducible first|apply X2|apply X8)|((with_reducible apply e_end);(simp;exact Red.rfl))|((with_reducible apply O1);rfl;(simp (disch:=omega);exact Red.rfl);exact Red.rfl;(focus (first|(simp;done)|omega|(simp;omega))))|((with_reducible apply Z9);(simp (disch:=omega);exact Red.rfl))|((with_reducible apply Z2);(simp (disch:=omega);exact Red.rfl)))
            have hf : thrB t s l i = false := by rw [hthr]; simp [hside]
            refine e_do (op := .mapDel _ _ _) rfl (den_delV (k := i) (w := wiF (hd t s l)) rfl rfl (by rw [at_new]; rfl) (le_mem hlt) (le_nd _ _ _)) Red.rfl trivial ?_
            rw [set_new, le_dropF hf]
            repeat (first|(with_reducible first|apply X2|apply X8|apply Y2)|((with_reducible apply e_end);(simp;exact Red.rfl))|((with_reducible apply O1);rfl;(simp (disch:=omega);exact Red.rfl);exact Red.rfl;(focus (first|(simp;done)|omega|(simp;omega)))))
            exact q_again ⟨i + 1, by omega⟩ (by dsimp only; omega) (.inl rfl)
          · (with_reducible apply e_call); (simp; exact Red.rfl); exact cst _ false (by simp [hsr, hside])
            rintro _ _ ⟨rfl, rfl⟩
            repeat (first|((with_reducible apply O1);rfl;(simp (disch:=omega);exact Red.rfl);exact Red.rfl;(focus (first|(simp;done)|omega|(simp;omega))))|((with_reducible apply Z7);(simp (disch:=omega);exact Red.rfl)))
            refine e_op (op := .mapGet _ _ _ _ _) rfl (den_getV (k := i) (w := wiF (hd t s l)) rfl rfl (by rw [at_new]; rfl) (le_mem hlt)) Red.rfl trivial ?_
            repeat ((with_reducible apply Z7);(simp (disch:=omega);exact Red.rfl))
            (with_reducible apply e_call); (simp; exact Red.rfl); exact cth hside _ (by rw [rd_old _ hid]; exact hs) _ cb
            rintro _ _ ⟨rfl, rfl⟩
            by_cases hw : a9 < htF (wiF (hd t s l) i) (dn t a6 a7) (up t s.t1 s.t2)
            · have hT : thrB t s l i = true := by rw [hthr]; simp [hside, hw]
              rw [← le_keepT hT]
              repeat (first|(with_reducible first|apply X2|apply X5|apply X8|apply Y2)|((with_reducible apply e_end);(simp;exact Red.rfl))|((with_reducible apply O1);rfl;(simp (disch:=omega) [hw];exact Red.rfl);exact Red.rfl;(focus (first|(simp;done)|omega|(simp;omega))))|((with_reducible apply Z7);(simp (disch:=omega) [hw];exact Red.rfl))|((with_reducible apply W3);(simp (disch:=omega) [hw];exact Red.rfl)))
              exact q_again ⟨i + 1, by omega⟩ (by dsimp only; omega) (.inl rfl)
            · have hf : thrB t s l i = false := by rw [hthr]; simp [hw]
              repeat (first|(with_reducible first|apply X2|apply X8)|((with_reducible apply e_end);(simp;exact Red.rfl))|((with_reducible apply O1);rfl;(simp (disch:=omega) [hw];exact Red.rfl);exact Red.rfl;(focus (first|(simp;done)|omega|(simp;omega))))|((with_reducible first|apply Z7|apply Z9);(simp (disch:=omega) [hw];exact Red.rfl)))
              refine e_do (op := .mapDel _ _ _) rfl (den_delV (k := i) (w := wiF (hd t s l)) rfl rfl (by rw [at_new]; rfl) (le_mem hlt) (le_nd _ _ _)) Red.rfl trivial ?_
              rw [set_new, le_dropF hf]
              repeat (first|(with_reducible first|apply X2|apply X8|apply Y2)|((with_reducible apply e_end);(simp;exact Red.rfl))|((with_reducible apply O1);rfl;(simp (disch:=omega);exact Red.rfl);exact Red.rfl;(focus (first|(simp;done)|omega|(simp;omega)))))
              exact q_again ⟨i + 1, by omega⟩ (by dsimp only; omega) (.inl rfl)
        · obtain rfl : i = l.length := by omega
          repeat (first|(with_reducible first|apply X1|apply X2|apply X4|apply X8|apply Y1|apply Y4|apply Y6)|((with_reducible apply e_end);(simp;exact Red.rfl))|((with_reducible apply O1);rfl;(simp (disch:=omega);exact Red.rfl);exact Red.rfl;(focus (first|(simp;done)|omega|(simp;omega))))|((with_reducible apply W3);(simp (disch:=omega);exact Red.rfl)))
          rw [le_end]
          (with_reducible apply e_call); (simp; exact Red.rfl); exact c_Keys _ (H.length + 1) (by simp)
          rintro _ _ ⟨rfl, rfl⟩
          have hX : (List.range l.length).filter (thrB t s l) = thL t s l := rfl
          rw [hX]
          have nd : (thL t s l).Nodup := List.Pairwise.filter _ List.nodup_range
          have hln : (thL t s l).length ≤ l.length := by
            have := List.length_filter_le (thrB t s l) (List.range l.length)
            simpa [thL] using this
          have inc : ∀ i j, i < j → j < (thL t s l).length → thK t s l i < thK t s l j := by
            intro i j hij hj
            have hp : (thL t s l).Pairwise (· < ·) := List.Pairwise.filter _ List.pairwise_lt_range
            have := List.pairwise_iff_getElem.1 hp i j (by omega) hj hij
            simp only [thK, List.getD_eq_getElem?_getD, List.getElem?_eq_getElem hj, List.getElem?_eq_getElem (show i < (thL t s l).length by omega), Option.getD_some]
            omega
          have KM : KeyMap (H ++ [.cells [.int .u8 s.c, .int .i64 s.s1, .int .i64 s.s2, .int .i64 s.r1, .int .i64 s.r2, .int .i64 s.d1, .int .i64 s.d2, .int .i64 s.w1, .int .i64 s.w2, .int .i64 s.t1, .int .i64 s.t2, .slice id off l.length 9 ex, .fn (.func (moF t)) [] [], .fn (.func (leF t)) [] []] true, moX (wiF (hd t s l)) (thL t s l) l.length, .cells (avR (r1 (wiF (hd t s l))) l.length) true, .cells [.map (H.length + 1)] true]) (H.length + 1) (mpV (wiF (hd t s l)) (thL t s l)) (thL t s l) l.length (thL t s l).length (thK t s l) :=
            ⟨by rw [at_new]; rfl, by simp [mpV], rfl, nd, fun b hb => List.mem_range.1 (List.mem_filter.1 hb).1, fun p hp => ⟨_, by
              rw [mpV_get _ (List.getElem?_eq_getElem hp)]
              simp only [thK, List.getD_eq_getElem?_getD, List.getElem?_eq_getElem hp, Option.getD_some]
              rfl⟩⟩
          have csd := c_Sorted _ (H.length + 3) (H.length + 1) l.length _ _ _ _ KM (by simp) (by omega) inc
          simp only [List.append_assoc, List.cons_append, List.nil_append, List.length_append, List.length_cons, List.length_nil, Nat.zero_add, Nat.reduceAdd]
          (with_reducible apply e_call); (simp; exact Red.rfl); exact csd
          rintro _ _ ⟨rfl, rfl⟩
          have pl := (plain_r1 (thK t s l)).plain (thL t s l).length
          generalize (thL t s l).length = m at pl ⊢
          unfold lV lO
          by_cases h0 : m = 0
          · simp only [if_pos h0, List.append_nil]
            repeat (first|(with_reducible first|apply X3|apply X8)|((with_reducible apply e_end);(simp;exact Red.rfl))|((with_reducible apply O1);rfl;(simp (disch:=omega);exact Red.rfl);exact Red.rfl;(focus (first|(simp;done)|omega|(simp;omega)))))
            exact q_post (v' := .nilslice) (.inr rfl) (by simp; exact Red.rfl) (le_drop (by simp)) ⟨rfl, rfl⟩
          · simp only [if_neg h0]
            repeat (first|(with_reducible first|apply X3|apply X8)|((with_reducible apply e_end);(simp;exact Red.rfl))|((with_reducible apply O1);rfl;(simp (disch:=omega);exact Red.rfl);exact Red.rfl;(focus (first|(simp;done)|omega|(simp;omega)))))
            exact q_post (v' := .slice H.length 0 m 1 false) (.inr rfl) (by simp; exact Red.rfl) (le_plain [4] _ (by simp) rfl (by simp; exact pl.o _) (by simp [sh, AV.ren])) ⟨rfl, rfl⟩
end Go.Proofs
/- Who is safe, and who may be thrown where. -/
namespace Go.Proofs
open Go.Abs
attribute [local simp] AOp.den AOpd.ev lk cellsOf rd_new rd_new0 rd_zero rd_succ wr_new wr_new0 wr_zero wr_succ splice fillA binA scal sliceCells List.length_append argsT AV.sc scL AObj.sc resV getAll AR.get AOp.slots opdSlots opdsSlots partSlots eqAt at_new0 at_new set_new0 set_new wrap64
set_option linter.unusedSimpArgs false
set_option linter.unusedVariables false
/-- How many curves may throw. -/
def thN (t : Bool) (s : Sl) (l : List Str) : Nat := (thL t s l).length
theorem thN_zero {t : Bool} {s : Sl} {l : List Str} : thN t s l = 0 ↔ ∀ i, i < l.length → thrB t s l i = false := by
  unfold thN thL
  rw [List.length_eq_zero_iff, List.filter_eq_nil_iff]
  constructor
  · intro h i hi; have := h i (List.mem_range.2 hi); simpa using this
  · intro h i hi; have := h i (List.mem_range.1 hi); simp [this]
/-- The first one of them. -/
def thC (t : Bool) (s : Sl) (l : List Str) : Nat := (thL t s l).getD 0 0
theorem c_safe (H : Heap) (s : Sl) (l : List Str) (id off : Nat) (ex : Bool) (hs : rd H id off (l.length * 9) = some (l.flatMap Str.av)) (hv : validL l) (hk : s.ok) :
    ACalls Try.prog F.slide_slider_safe [.agg (s.av ++ [.slice id off l.length 9 ex])] H (fun v h' => v = .bool (decide (thN true s l = 0)) ∧ h' = H) := by
  have hid := rd_lt hs
  have cf := fun H' h => c_fastest H' s id off l.length ex h
  have ct := fun H' h => c_throwing true H' s l id off ex h hv hk
  have hN : (thL true s l).length = thN true s l := rfl
  simp only [trv, Sl.av, List.cons_append, List.nil_append] at cf ct ⊢
  refine acalls_of ok_slide_slider_safe rfl fun hcl => ?_
  unfold ac_slide_slider_safe
  simp only [argsT, Nat.zero_add, Nat.reduceAdd]
  repeat (first|(with_reducible first|apply X1|apply X2|apply X8)|((with_reducible apply e_end);(simp;exact Red.rfl))|((with_reducible apply O1);rfl;(simp (disch:=omega);exact Red.rfl);exact Red.rfl;(focus (first|(simp;done)|omega|(simp;omega)))))
  (with_reducible apply e_call); (simp; exact Red.rfl); exact cf _ (by simp; omega)
  rintro _ _ ⟨rfl, rfl⟩
  skip
  (with_reducible apply e_call); (simp; exact Red.rfl); exact ct _ (by rw [rd_old _ hid]; exact hs)
  rintro _ _ ⟨rfl, rfl⟩
  rw [hN]
  unfold lV lO
  by_cases h0 : thN true s l = 0
  · simp only [if_pos h0, List.append_nil]
    repeat (first|(with_reducible first|apply X3|apply X8)|((with_reducible apply e_end);(simp;exact Red.rfl))|((with_reducible apply O1);rfl;(simp (disch:=omega);exact Red.rfl);exact Red.rfl;(focus (first|(simp;done)|omega|(simp;omega)))))
    refine q_drop (.inr rfl) (by simp; exact Red.rfl) (by simp) ⟨by simp [h0], rfl⟩
  · simp only [if_neg h0]
    have h1 : ¬ ((thN true s l : Nat) : Int) = 0 := by omega
    repeat (first|(with_reducible first|apply X3|apply X8)|((with_reducible apply e_end);(simp;exact Red.rfl))|((with_reducible apply O1);rfl;(simp (disch:=omega) [h0, h1];exact Red.rfl);exact Red.rfl;(focus (first|(simp;done)|omega|(simp;omega)))))
    refine q_drop (.inr rfl) (by simp; exact Red.rfl) (by simp) ⟨by simp [h0], rfl⟩

/-- What is known of a sled. -/
def knF (s : Sl) (l : List Str) : Int := if thN true s l = 0 then 2 else if thN false s l = 0 then 1 else 0
theorem c_Safe (H : Heap) (l : List Str) (id off : Nat) (ex : Bool) (s : Sl) (hs : rd H id off (l.length * 9) = some (l.flatMap Str.av)) (hv : validL l) (hk : s.ok) :
    ACalls Try.prog F.slide_Safe [.agg [.slice id off l.length 9 ex], .agg s.av] H (fun v h' => v = .tuple [.int .u8 (knF s l), .int .i64 0] ∧ h' = H) := by
  have hid := rd_lt hs
  have h12 := hv.1
  have ck := fun H' h1 xid h2 => c_checkOne H' l id off ex s xid 0 true h1 hv hk h2
  have csf := fun H' h => c_safe H' s l id off ex h hv hk
  have cs := fun H' h => c_slowest H' s id off l.length ex h
  have ct := fun H' h => c_throwing false H' s l id off ex h hv hk
  have hN : (thL false s l).length = thN false s l := rfl
  unfold knF
  simp only [trv, Sl.av, List.cons_append, List.nil_append] at ck csf cs ct ⊢
  refine acalls_of ok_slide_Safe rfl fun hcl => ?_
  unfold ac_slide_Safe
  simp only [argsT, Nat.zero_add, Nat.reduceAdd]
  repeat (first|(with_reducible first|apply X1|apply X2|apply X8)|((with_reducible apply e_end);(simp;exact Red.rfl))|((with_reducible apply O1);rfl;(simp (disch:=omega);exact Red.rfl);exact Red.rfl;(focus (first|(simp;done)|omega|(simp;omega)))))
  (with_reducible apply e_call); (simp; exact Red.rfl); exact ck _ (by rw [rd_old _ hid]; exact hs) _ (by simp)
  rintro _ _ ⟨rfl, rfl⟩
  repeat (first|(with_reducible first|apply X1|apply X2|apply X5|apply X6|apply X8)|((with_reducible apply e_end);(simp;exact Red.rfl))|((first|((with_reducible apply O1);rfl)|((with_reducible apply O2);rfl));(simp (disch:=omega);exact Red.rfl);exact Red.rfl;(focus (first|(simp;done)|omega|(simp;omega))))|((with_reducible apply W3);(simp (disch:=omega);exact Red.rfl)))
  (with_reducible apply e_call); (simp; exact Red.rfl); exact csf _ (by rw [rd_old _ hid]; exact hs)
  rintro _ _ ⟨rfl, rfl⟩
  by_cases h0 : thN true s l = 0
  · repeat (first|(with_reducible first|apply X1|apply X2|apply X3|apply X8|apply X9|apply Y3)|((with_reducible apply e_end);(simp;exact Red.rfl))|((with_reducible apply O1);rfl;(simp (disch:=omega) [h0];exact Red.rfl);exact Red.rfl;(focus (first|(simp;done)|omega|(simp;omega))))|((with_reducible apply Z9);(simp (disch:=omega) [h0];exact Red.rfl)))
    refine q_drop (.inr rfl) (by simp; exact Red.rfl) (by simp) ⟨by simp [h0], rfl⟩
  · repeat (first|(with_reducible first|apply X1|apply X2|apply X8)|((with_reducible apply e_end);(simp;exact Red.rfl))|((with_reducible apply O1);rfl;(simp (disch:=omega) [h0];exact Red.rfl);exact Red.rfl;(focus (first|(simp;done)|omega|(simp;omega))))|((with_reducible apply W3);(simp (disch:=omega) [h0];exact Red.rfl)))
    (with_reducible apply e_call); (simp; exact Red.rfl); exact cs _ (by simp; omega)
    rintro _ _ ⟨rfl, rfl⟩
    skip
    (with_reducible apply e_call); (simp; exact Red.rfl); exact ct _ (by simp only [List.append_assoc, rd_old _ hid]; exact hs)
    rintro _ _ ⟨rfl, rfl⟩
    rw [hN]
    unfold lV lO
    by_cases h1 : thN false s l = 0
    · simp only [if_pos h1, List.append_nil]
      repeat (first|(with_reducible first|apply X1|apply X2|apply X3|apply X5|apply X8|apply Y2)|((with_reducible apply e_end);(simp;exact Red.rfl))|((with_reducible apply O1);rfl;(simp (disch:=omega);exact Red.rfl);exact Red.rfl;(focus (first|(simp;done)|omega|(simp;omega))))|((with_reducible apply W3);(simp (disch:=omega);exact Red.rfl)))
      refine q_drop (.inr rfl) (by simp; exact Red.rfl) (by simp) ⟨by simp [h0, h1], rfl⟩
    · simp only [if_neg h1]
      have h2 : 0 < ((thN false s l : Nat) : Int) := by omega
      have h3 : 0 < thN false s l := by omega
      repeat (first|(with_reducible first|apply X1|apply X2|apply X3|apply X8|apply X9|apply Y3)|((with_reducible apply e_end);(simp;exact Red.rfl))|((with_reducible apply O1);rfl;(simp (disch:=omega) [h2, h3];exact Red.rfl);exact Red.rfl;(focus (first|(simp;done)|omega|(simp;omega))))|((with_reducible apply Z9);(simp (disch:=omega) [h2, h3];exact Red.rfl)))
      refine q_drop (.inr rfl) (by simp; exact Red.rfl) (by simp) ⟨by simp [h0, h1], rfl⟩

/-- The least number of which something is so, up to one. -/
def leastF (p : Int → Bool) : Nat → Nat
  | 0 => 0
  | n + 1 => if p (leastF p n) = true then leastF p n else if leastF p n = n then n + 1 else leastF p n
theorem leastF_is (p : Int → Bool) : ∀ n, leastF p n ≤ n ∧ (∀ m : Nat, m < leastF p n → p m = false) ∧ (leastF p n < n → p (leastF p n) = true)
  | 0 => ⟨Nat.le_refl _, fun m h => by simp [leastF] at h, fun h => by simp [leastF] at h⟩
  | n + 1 => by
    obtain ⟨h1, h2, h3⟩ := leastF_is p n
    simp only [leastF]
    by_cases hp : p (leastF p n) = true
    · rw [if_pos hp]; exact ⟨by omega, h2, fun _ => hp⟩
    · rw [if_neg hp]
      by_cases he : leastF p n = n
      · rw [if_pos he]
        refine ⟨Nat.le_refl _, fun m hm => ?_, fun h => by omega⟩
        rcases Nat.lt_or_ge m n with h | h
        · exact h2 m (by omega)
        · obtain rfl : m = leastF p n := by omega
          simpa using hp
      · rw [if_neg he]; exact absurd (h3 (by omega)) hp
theorem least_uniq {p : Int → Bool} {n : Nat} {r : Int} (h0 : 0 ≤ r) (hn : r ≤ n) (h1 : ∀ m, 0 ≤ m → m < r → p m = false) (h2 : ∀ m, r ≤ m → m < n → p m = true) : r = leastF p n := by
  obtain ⟨g1, g2, g3⟩ := leastF_is p n
  rcases Int.lt_trichotomy r (leastF p n) with h | h | h
  · have e1 := g2 r.toNat (by omega)
    have e2 := h2 r (Int.le_refl _) (by omega)
    rw [Int.toNat_of_nonneg h0, e2] at e1; cases e1
  · exact h
  · have e1 := h1 (leastF p n) (by omega) h
    rw [g3 (by omega)] at e1; cases e1

/-- Whether a curve throws at a head. -/
def thrP (t : Bool) (s : Sl) (l : List Str) (i : Nat) (x : Int) : Bool := decide ((strAt l i).wall < htF x (dn t (strAt l i).rLo (strAt l i).rHi) (up t s.t1 s.t2))
/-- The head at which a curve throws, at least. -/
def nmR (s : Sl) (l : List Str) : Int := leastF (thrP true s l (thC true s l)) (wiF (hd true s l) (thC true s l)).toNat

end Go.Proofs
/- SlideStart, the law's contract. -/
namespace Go.Proofs
open Go.Abs
attribute [local simp] AOp.den AOpd.ev lk cellsOf rd_new rd_new0 rd_zero rd_succ wr_new wr_new0 wr_zero wr_succ splice fillA binA scal sliceCells List.length_append argsT AV.sc scL AObj.sc resV getAll AR.get AOp.slots opdSlots opdsSlots partSlots eqAt at_new0 at_new set_new0 set_new wrap64
set_option linter.unusedSimpArgs false
set_option linter.unusedVariables false
/-- A sled with a start from 0 on. -/
def stS (s : Sl) (m : Int) : Sl := ⟨s.c, 0, m, s.r1, s.r2, s.d1, s.d2, s.w1, s.w2, s.t1, s.t2⟩
theorem st_ok {s : Sl} (h : s.ok) {m : Int} (hm : 0 ≤ m ∧ m ≤ 200000) : (stS s m).ok := by simp only [Sl.ok, stS] at h ⊢; omega
/-- Whether a sled may be thrown from a start. -/
def stP (s : Sl) (l : List Str) (m : Int) : Bool := !decide (thN true (stS s m) l = 0)
theorem hd_start {s s' : Sl} {l : List Str} (hv : validL l) (hs : s.ok) (he : s'.s2 ≤ s.s2 ∧ 0 ≤ s'.s2) (hr : s'.r1 = s.r1) (hd' : s'.d1 = s.d1) (hw : s'.w2 = s.w2) {i : Nat} (hi : i ≤ l.length) : hd true s' l i ≤ hd true s l i ∧ 0 ≤ hd true s' l i := by
  obtain ⟨k0, k1, k2, k3, k4, k5⟩ := hs
  have := hdG_mono (st := s'.s2) (st' := s.s2) (d := s'.d1) (d' := s.d1) (w := s'.w2) (w' := s.w2) (r := fun _ => s'.r1) (r' := fun _ => s.r1) (L := fun j => (strAt l j).lLo) (L' := fun j => (strAt l j).lLo) (f := fun j => (strAt l j).fHi) (f' := fun j => (strAt l j).fHi) (n := l.length)
    he.2 he.1 (by omega) (by omega) (by omega) (by omega) (fun j _ => by omega) (fun j hj => by have := (str_ok hv hj).2.2; omega) (fun j _ => Int.le_refl _) i hi
  exact ⟨this.2, this.1⟩
theorem thr_start {s s' : Sl} {l : List Str} (hv : validL l) (hs : s.ok) (he : s'.s2 ≤ s.s2 ∧ 0 ≤ s'.s2) (hr : s'.r1 = s.r1) (hd' : s'.d1 = s.d1) (hw : s'.w2 = s.w2) (ht : s'.t2 = s.t2) (h : thN true s l = 0) : thN true s' l = 0 := by
  rw [thN_zero] at h ⊢
  intro i hi
  have h1 := h i hi
  have a := hd_start hv hs he hr hd' hw (i := i) (by omega)
  have b := hd_start hv hs he hr hd' hw (i := i + 1) (by omega)
  simp only [thrB, decide_eq_false_iff_not, not_and, Int.not_lt] at h1 ⊢
  intro hc
  have h2 := h1 hc
  have hrad := curve_rad hv hi hc
  have := ht_mono (h := wiF (hd true s' l) i) (h' := wiF (hd true s l) i) (r := dn true (strAt l i).rLo (strAt l i).rHi) (r' := dn true (strAt l i).rLo (strAt l i).rHi) (t := up true s'.t1 s'.t2) (t' := up true s.t1 s.t2)
    (by unfold wiF; omega) (by unfold wiF; omega) (by rw [show dn true (strAt l i).rLo (strAt l i).rHi = (strAt l i).rLo from rfl]; omega) (Int.le_refl _) (by rw [show up true s'.t1 s'.t2 = s'.t2 from rfl, show up true s.t1 s.t2 = s.t2 from rfl]; omega)
  omega
theorem stP_mono {s : Sl} {l : List Str} (hv : validL l) (hs : s.ok) {a b : Int} (ha : 0 ≤ a) (hab : a ≤ b) (hb : b ≤ 200000) (h : stP s l a = true) : stP s l b = true := by
  simp only [stP, Bool.not_eq_true', decide_eq_false_iff_not] at h ⊢
  intro h2
  exact h (thr_start hv (st_ok hs ⟨by omega, hb⟩) ⟨hab, ha⟩ rfl rfl rfl rfl h2)

/-- The same memory, but for old objects that hold other old things now. -/
def Chg2 (H H2 : Heap) : Prop := H2.length = H.length ∧ ∀ (i : Nat) (o : AObj), H2[i]? = some o → H[i]? = some o ∨ o.sc H.length = true
theorem Chg2.rfl' (H : Heap) : Chg2 H H := ⟨rfl, fun _ _ h => .inl h⟩
theorem chg2_set (H : Heap) (id : Nat) (o : AObj) (hp : o.sc H.length = true) : Chg2 H (H.set id o) := by
  refine ⟨by simp, fun i o' h => ?_⟩
  rw [List.getElem?_set] at h
  split at h
  · split at h
    · simp only [Option.some.injEq] at h; subst h; exact .inr hp
    · cases h
  · exact .inl h
theorem le_chg2 {H H2 : Heap} {s s' : St} (hc : Chg2 H H2) (h : Le H2 s s') : Le H s s' := by
  obtain ⟨n, ρ, h1, h2, h3, h4⟩ := h
  refine ⟨by rw [← hc.1]; exact n, ρ, fun i hi => h1 i (by rw [hc.1]; exact hi), fun i o hi => ?_, h3, h4⟩
  rcases h2 i o hi with h | ⟨h5, h6⟩ | h
  · exact .inl h
  · rcases hc.2 i o h5 with h7 | h7
    · exact .inr (.inl ⟨h7, h6⟩)
    · have h8 : i < H2.length := (List.getElem?_eq_some_iff.1 h5).1
      refine .inr (.inr ⟨asc_mono (by rw [← hc.1]; exact n) _ h7, ?_⟩)
      rw [h1 i h8, h6, aren_id (m := H.length) (fun j hj => h1 j (by rw [hc.1]; exact hj)) _ h7]
  · exact .inr (.inr h)
theorem q_dropE0 {H H2 : Heap} {t : List (Nat × AV)} {rs : List AR} {R : AV → Heap → Prop} {e : Exit} {v : AV} (hc : Chg2 H H2) (he : e = .normal ∨ e = .ret) (hv : Red (resV ⟨t, H2⟩ rs) (some v)) (hs : v.sc H.length = true) (hr : R v H2) : EQ (Post H rs R) e t H2 :=
  q_post he hv (le_chg2 hc (le_id (by simp [hs, lk, hc.1]))) hr

/-- The first number, where what is asked leaves something in memory. -/
theorem c_firstM (H : Heap) (W : Int → Heap) (g : FuncId) (caps : List AV) (b : Int) (p : Int → Bool) (hab : 0 ≤ b) (hb : b ≤ 4000000000000000000) (hcaps : scL H.length caps = true) (hW : ∀ m, Chg2 H (W m))
    (hp : ∀ m G, 0 ≤ m → m < b → (G = H ∨ ∃ m0, G = W m0) → ACalls Try.prog g (.int .i64 m :: caps) G (fun v h' => v = .bool (p m) ∧ h' = W m)) (hm : ∀ x y, 0 ≤ x → x ≤ y → y < b → p x = true → p y = true) :
    ACalls Try.prog F.span_First_int [.int .i64 0, .int .i64 b, .fn (.func g) [] caps] H (fun v h' => v = .int .i64 (leastF p b.toNat) ∧ (h' = H ∨ ∃ m0, h' = W m0)) := by
  refine acalls_of ok_span_First_int rfl fun hcl => ?_
  unfold ac_span_First_int
  simp only [argsT, Nat.zero_add, Nat.reduceAdd]
  repeat (first|(with_reducible first|apply X1|apply X2|apply X6|apply X8)|((with_reducible apply e_end);(simp;exact Red.rfl))|((with_reducible apply O1);rfl;(simp (disch:=omega);exact Red.rfl);exact Red.rfl;(focus (first|(simp;done)|omega|(simp;omega)))))
  refine e_loop (ι := { x : (Int × Int) × Heap // 0 ≤ x.1.1 ∧ x.1.1 ≤ x.1.2 ∧ x.1.2 ≤ b ∧ (∀ m, 0 ≤ m → m < x.1.1 → p m = false) ∧ (∀ m, x.1.2 ≤ m → m < b → p m = true) ∧ (x.2 = H ∨ ∃ m0, x.2 = W m0) })
    (fun x => [(0, .int .i64 x.1.1.1), (1, .int .i64 x.1.1.2), (2, .fn (.func g) [] caps)]) (fun x => x.1.2) (fun x => (x.1.1.2 - x.1.1.1).toNat) ⟨((0, b), H), by simp only; omega, hab, by simp, fun _ _ h => by simp only at h; omega, fun _ h _ => by simp only at h; omega, .inl rfl⟩ ?_ ?_
  · exact .inl rfl
  · rintro ⟨⟨⟨x, y⟩, G⟩, h1, h2, h3, h4, h5, h6⟩
    dsimp only at h1 h2 h3 h4 h5 h6 ⊢
    have hG : Chg2 H G := by
      rcases h6 with rfl | ⟨m0, rfl⟩
      · exact Chg2.rfl' _
      · exact hW m0
    repeat (first|(with_reducible first|apply X1|apply X2|apply X8)|((with_reducible apply e_end);(simp;exact Red.rfl))|((with_reducible apply O1);rfl;(simp (disch:=omega);exact Red.rfl);exact Red.rfl;(focus (first|(simp;done)|omega|(simp;omega)))))
    (with_reducible apply e_dec); (simp; exact Red.rfl)
    · intro hlt
      have ht : (y - x).tdiv 2 = (y - x) / 2 := Int.tdiv_eq_ediv_of_nonneg (by omega)
      repeat (first|(with_reducible first|apply X1|apply X2|apply X5|apply X6|apply X8)|((with_reducible apply e_end);(simp;exact Red.rfl))|((with_reducible apply O1);rfl;(simp (disch:=omega) [ht];exact Red.rfl);exact Red.rfl;(focus (first|(simp;done)|omega|(simp;omega)))))
      have hmid : x ≤ x + (y - x) / 2 ∧ x + (y - x) / 2 < y := by omega
      generalize x + (y - x) / 2 = m at hmid
      (with_reducible apply e_callV); (simp; exact Red.rfl); (simp; exact Red.rfl); exact hp m G (by omega) (by omega) h6
      rintro _ _ ⟨rfl, rfl⟩
      cases hpm : p m with
      | true =>
        repeat (first|(with_reducible first|apply X2|apply X8|apply Y2)|((with_reducible apply e_end);(simp;exact Red.rfl))|((with_reducible apply O1);rfl;(simp (disch:=omega) [hpm];exact Red.rfl);exact Red.rfl;(focus (first|(simp;done)|omega|(simp;omega))))|((with_reducible apply Z9);(simp (disch:=omega) [hpm];exact Red.rfl)))
        exact q_again ⟨((x, m), W m), h1, by simp only; omega, by simp only; omega, h4, fun m' h6 h7 => hm m m' (by omega) h6 h7 hpm, .inr ⟨m, rfl⟩⟩ (by dsimp only; omega) (.inl rfl)
      | false =>
        repeat (first|(with_reducible first|apply X2|apply X8|apply Y2)|((with_reducible apply e_end);(simp;exact Red.rfl))|((with_reducible apply O1);rfl;(simp (disch:=omega) [hpm];exact Red.rfl);exact Red.rfl;(focus (first|(simp;done)|omega|(simp;omega))))|((with_reducible apply W3);(simp (disch:=omega) [hpm];exact Red.rfl)))
        refine q_again ⟨((m + 1, y), W m), by simp only; omega, by simp only; omega, h3, fun m' h6 h7 => ?_, h5, .inr ⟨m, rfl⟩⟩ (by dsimp only; omega) (.inl rfl)
        simp only at h7
        cases hpm' : p m' with
        | false => rfl
        | true => have := hm m' m h6 (by omega) (by omega) hpm'; rw [hpm] at this; cases this
    · intro hge
      repeat (first|(with_reducible first|apply X1|apply X2|apply X3|apply X4|apply X8|apply Y1|apply Y4|apply Y6)|((with_reducible apply e_end);(simp;exact Red.rfl))|((with_reducible apply O1);rfl;(simp (disch:=omega);exact Red.rfl);exact Red.rfl;(focus (first|(simp;done)|omega|(simp;omega)))))
      obtain rfl : x = y := by omega
      have hr := least_uniq (p := p) (n := b.toNat) h1 (by omega) h4 (fun m q1 q2 => h5 m q1 (by omega))
      exact q_dropE0 hG (.inr rfl) (by simp; exact Red.rfl) (by simp) ⟨by rw [hr], h6⟩

theorem c_Start1 (H : Heap) (s : Sl) (l : List Str) (id off wid : Nat) (ex : Bool) (x y m : Int) (hs : rd H id off (l.length * 9) = some (l.flatMap Str.av)) (hv : validL l) (hk : s.ok) (hm : 0 ≤ m ∧ m ≤ 200000)
    (hw : H[wid]? = some (.cells ((⟨s.c, x, y, s.r1, s.r2, s.d1, s.d2, s.w1, s.w2, s.t1, s.t2⟩ : Sl).av ++ [.slice id off l.length 9 ex]) true)) (hne : id ≠ wid) :
    ACalls Try.prog F.slide_Start_1 [.int .i64 m, .ptr wid 0] H (fun v h' => v = .bool (stP s l m) ∧ h' = H.set wid (.cells ((stS s m).av ++ [.slice id off l.length 9 ex]) true)) := by
  have hwid := (List.getElem?_eq_some_iff.1 hw).1
  have hid := rd_lt hs
  have csf := fun H' h => c_safe H' (stS s m) l id off ex h hv (st_ok hk hm)
  have w1 : wr H wid 1 [.int .i64 0, .int .i64 m] = some (H.set wid (.cells ((stS s m).av ++ [.slice id off l.length 9 ex]) true)) := by
    simp [wr, hw, Sl.av, stS, splice]
  have r1 : rd (H.set wid (.cells ((stS s m).av ++ [.slice id off l.length 9 ex]) true)) wid 0 12 = some ((stS s m).av ++ [.slice id off l.length 9 ex]) := by
    simp [rd, hwid, Sl.av, stS]
  have r2 : rd (H.set wid (.cells ((stS s m).av ++ [.slice id off l.length 9 ex]) true)) id off (l.length * 9) = some (l.flatMap Str.av) := by
    unfold rd at hs ⊢
    rw [List.getElem?_set_ne (Ne.symm hne)]
    exact hs
  have csf1 := csf _ r2
  have hsc : (AObj.cells ((stS s m).av ++ [.slice id off l.length 9 ex]) true).sc H.length = true := by simp [Sl.av, stS, hid]
  refine acalls_of ok_slide_Start_1 rfl fun hcl => ?_
  unfold ac_slide_Start_1
  simp only [argsT, Nat.zero_add, Nat.reduceAdd]
  repeat (first|(with_reducible first|apply X1|apply X2|apply X8)|((with_reducible apply e_end);(simp;exact Red.rfl))|((with_reducible apply O1);rfl;(simp (disch:=omega);exact Red.rfl);exact Red.rfl;(focus (first|(simp;done)|omega|(simp;omega)))))
  (with_reducible apply e_call); (simp; exact Red.rfl); exact c_upto _ _
  rintro _ _ ⟨rfl, rfl⟩
  repeat (first|(with_reducible first|apply X1|apply X2|apply X8)|((with_reducible apply e_end);(simp;exact Red.rfl))|((first|((with_reducible apply O1);rfl)|((with_reducible apply O2);rfl));(simp (disch:=omega) [w1];exact Red.rfl);exact Red.rfl;(focus (first|(simp;done)|omega|(simp;omega)))))
  repeat ((with_reducible apply O1);rfl;(simp (disch:=omega) [r1];exact Red.rfl);exact Red.rfl;(focus (first|(simp;done)|omega|(simp;omega))))
  (with_reducible apply e_call); (simp; exact Red.rfl); exact csf1
  rintro _ _ ⟨rfl, rfl⟩
  repeat (first|(with_reducible first|apply X3|apply X8)|((with_reducible apply e_end);(simp;exact Red.rfl))|((with_reducible apply O1);rfl;(simp (disch:=omega);exact Red.rfl);exact Red.rfl;(focus (first|(simp;done)|omega|(simp;omega)))))
  exact q_post (v' := .bool (!decide (thN true (stS s m) l = 0))) (.inr rfl) (by simp; exact Red.rfl) (le_chg2 (chg2_set _ _ _ hsc) (le_id (by simp))) ⟨rfl, rfl⟩

theorem c_Start (H : Heap) (l : List Str) (id off : Nat) (ex : Bool) (s : Sl) (hs : rd H id off (l.length * 9) = some (l.flatMap Str.av)) (hv : validL l) (hk : s.ok) :
    ACalls Try.prog F.slide_Start [.agg [.slice id off l.length 9 ex], .agg s.av] H (fun v h' => h' = H ∧ ((leastF (stP s l) 200001 = 0 ∧ v = .tuple [.int .i64 0, .int .i64 6]) ∨ (leastF (stP s l) 200001 ≠ 0 ∧ v = .tuple [.int .i64 ((leastF (stP s l) 200001 : Nat) - 1), .int .i64 0]))) := by
  have hid := rd_lt hs
  have h12 := hv.1
  have ck := fun H' h1 xid h2 => c_checkOne H' l id off ex s xid 0 true h1 hv hk h2
  have c1 := fun H' wid x y m h hm hw hne => c_Start1 H' s l id off wid ex x y m h hv hk hm hw hne
  simp only [Sl.av, List.cons_append, List.nil_append] at ck c1 ⊢
  refine acalls_of ok_slide_Start rfl fun hcl => ?_
  unfold ac_slide_Start
  simp only [argsT, Nat.zero_add, Nat.reduceAdd]
  repeat (first|(with_reducible first|apply X1|apply X2|apply X8)|((with_reducible apply e_end);(simp;exact Red.rfl))|((with_reducible apply O1);rfl;(simp (disch:=omega);exact Red.rfl);exact Red.rfl;(focus (first|(simp;done)|omega|(simp;omega)))))
  (with_reducible apply e_call); (simp; exact Red.rfl); exact ck _ (by rw [rd_old _ hid]; exact hs) _ (by simp)
  rintro _ _ ⟨rfl, rfl⟩
  repeat (first|(with_reducible first|apply X1|apply X2|apply X5|apply X8)|((with_reducible apply e_end);(simp;exact Red.rfl))|((first|((with_reducible apply O1);rfl)|((with_reducible apply O2);rfl));(simp (disch:=omega);exact Red.rfl);exact Red.rfl;(focus (first|(simp;done)|omega|(simp;omega))))|((with_reducible apply W3);(simp (disch:=omega);exact Red.rfl)))
  have st : ∀ x y m : Int, (H ++ [AObj.cells [.slice id off l.length 9 ex] true, AObj.cells [.int .u8 s.c, .int .i64 s.s1, .int .i64 s.s2, .int .i64 s.r1, .int .i64 s.r2, .int .i64 s.d1, .int .i64 s.d2, .int .i64 s.w1, .int .i64 s.w2, .int .i64 s.t1, .int .i64 s.t2] true, AObj.cells [.int .u8 s.c, .int .i64 s.s1, .int .i64 s.s2, .int .i64 s.r1, .int .i64 s.r2, .int .i64 s.d1, .int .i64 s.d2, .int .i64 s.w1, .int .i64 s.w2, .int .i64 s.t1, .int .i64 s.t2] true, AObj.cells [.int .u8 s.c, .int .i64 (x), .int .i64 (y), .int .i64 s.r1, .int .i64 s.r2, .int .i64 s.d1, .int .i64 s.d2, .int .i64 s.w1, .int .i64 s.w2, .int .i64 s.t1, .int .i64 s.t2, .slice id off l.length 9 ex] true]).set (H.length + 3) (AObj.cells [.int .u8 s.c, .int .i64 (0), .int .i64 (m), .int .i64 s.r1, .int .i64 s.r2, .int .i64 s.d1, .int .i64 s.d2, .int .i64 s.w1, .int .i64 s.w2, .int .i64 s.t1, .int .i64 s.t2, .slice id off l.length 9 ex] true) = H ++ [AObj.cells [.slice id off l.length 9 ex] true, AObj.cells [.int .u8 s.c, .int .i64 s.s1, .int .i64 s.s2, .int .i64 s.r1, .int .i64 s.r2, .int .i64 s.d1, .int .i64 s.d2, .int .i64 s.w1, .int .i64 s.w2, .int .i64 s.t1, .int .i64 s.t2] true, AObj.cells [.int .u8 s.c, .int .i64 s.s1, .int .i64 s.s2, .int .i64 s.r1, .int .i64 s.r2, .int .i64 s.d1, .int .i64 s.d2, .int .i64 s.w1, .int .i64 s.w2, .int .i64 s.t1, .int .i64 s.t2] true, AObj.cells [.int .u8 s.c, .int .i64 (0), .int .i64 (m), .int .i64 s.r1, .int .i64 s.r2, .int .i64 s.d1, .int .i64 s.d2, .int .i64 s.w1, .int .i64 s.w2, .int .i64 s.t1, .int .i64 s.t2, .slice id off l.length 9 ex] true] := fun x y m => by rw [set_new]; rfl
  have cM := c_firstM (H ++ [AObj.cells [.slice id off l.length 9 ex] true, AObj.cells [.int .u8 s.c, .int .i64 s.s1, .int .i64 s.s2, .int .i64 s.r1, .int .i64 s.r2, .int .i64 s.d1, .int .i64 s.d2, .int .i64 s.w1, .int .i64 s.w2, .int .i64 s.t1, .int .i64 s.t2] true, AObj.cells [.int .u8 s.c, .int .i64 s.s1, .int .i64 s.s2, .int .i64 s.r1, .int .i64 s.r2, .int .i64 s.d1, .int .i64 s.d2, .int .i64 s.w1, .int .i64 s.w2, .int .i64 s.t1, .int .i64 s.t2] true, AObj.cells [.int .u8 s.c, .int .i64 (s.s1), .int .i64 (s.s2), .int .i64 s.r1, .int .i64 s.r2, .int .i64 s.d1, .int .i64 s.d2, .int .i64 s.w1, .int .i64 s.w2, .int .i64 s.t1, .int .i64 s.t2, .slice id off l.length 9 ex] true]) (fun m => H ++ [AObj.cells [.slice id off l.length 9 ex] true, AObj.cells [.int .u8 s.c, .int .i64 s.s1, .int .i64 s.s2, .int .i64 s.r1, .int .i64 s.r2, .int .i64 s.d1, .int .i64 s.d2, .int .i64 s.w1, .int .i64 s.w2, .int .i64 s.t1, .int .i64 s.t2] true, AObj.cells [.int .u8 s.c, .int .i64 s.s1, .int .i64 s.s2, .int .i64 s.r1, .int .i64 s.r2, .int .i64 s.d1, .int .i64 s.d2, .int .i64 s.w1, .int .i64 s.w2, .int .i64 s.t1, .int .i64 s.t2] true, AObj.cells [.int .u8 s.c, .int .i64 (0), .int .i64 (m), .int .i64 s.r1, .int .i64 s.r2, .int .i64 s.d1, .int .i64 s.d2, .int .i64 s.w1, .int .i64 s.w2, .int .i64 s.t1, .int .i64 s.t2, .slice id off l.length 9 ex] true]) F.slide_Start_1 [.ptr (H.length + 3) 0] 200001 (stP s l) (by omega) (by omega) (by simp)
    (fun m => by
      have := chg2_set (H ++ [AObj.cells [.slice id off l.length 9 ex] true, AObj.cells [.int .u8 s.c, .int .i64 s.s1, .int .i64 s.s2, .int .i64 s.r1, .int .i64 s.r2, .int .i64 s.d1, .int .i64 s.d2, .int .i64 s.w1, .int .i64 s.w2, .int .i64 s.t1, .int .i64 s.t2] true, AObj.cells [.int .u8 s.c, .int .i64 s.s1, .int .i64 s.s2, .int .i64 s.r1, .int .i64 s.r2, .int .i64 s.d1, .int .i64 s.d2, .int .i64 s.w1, .int .i64 s.w2, .int .i64 s.t1, .int .i64 s.t2] true, AObj.cells [.int .u8 s.c, .int .i64 (s.s1), .int .i64 (s.s2), .int .i64 s.r1, .int .i64 s.r2, .int .i64 s.d1, .int .i64 s.d2, .int .i64 s.w1, .int .i64 s.w2, .int .i64 s.t1, .int .i64 s.t2, .slice id off l.length 9 ex] true]) (H.length + 3) (AObj.cells [.int .u8 s.c, .int .i64 (0), .int .i64 (m), .int .i64 s.r1, .int .i64 s.r2, .int .i64 s.d1, .int .i64 s.d2, .int .i64 s.w1, .int .i64 s.w2, .int .i64 s.t1, .int .i64 s.t2, .slice id off l.length 9 ex] true) (by simp; omega)
      rw [st] at this; exact this)
    (fun m G h1 h2 hG => by
      rcases hG with rfl | ⟨m0, rfl⟩
      · have := c1 (H ++ [AObj.cells [.slice id off l.length 9 ex] true, AObj.cells [.int .u8 s.c, .int .i64 s.s1, .int .i64 s.s2, .int .i64 s.r1, .int .i64 s.r2, .int .i64 s.d1, .int .i64 s.d2, .int .i64 s.w1, .int .i64 s.w2, .int .i64 s.t1, .int .i64 s.t2] true, AObj.cells [.int .u8 s.c, .int .i64 s.s1, .int .i64 s.s2, .int .i64 s.r1, .int .i64 s.r2, .int .i64 s.d1, .int .i64 s.d2, .int .i64 s.w1, .int .i64 s.w2, .int .i64 s.t1, .int .i64 s.t2] true, AObj.cells [.int .u8 s.c, .int .i64 (s.s1), .int .i64 (s.s2), .int .i64 s.r1, .int .i64 s.r2, .int .i64 s.d1, .int .i64 s.d2, .int .i64 s.w1, .int .i64 s.w2, .int .i64 s.t1, .int .i64 s.t2, .slice id off l.length 9 ex] true]) (H.length + 3) s.s1 s.s2 m (by rw [rd_old _ hid]; exact hs) (by omega) (by rw [at_new]; rfl) (by omega)
        simp only [stS] at this
        rw [st] at this; exact this
      · have := c1 (H ++ [AObj.cells [.slice id off l.length 9 ex] true, AObj.cells [.int .u8 s.c, .int .i64 s.s1, .int .i64 s.s2, .int .i64 s.r1, .int .i64 s.r2, .int .i64 s.d1, .int .i64 s.d2, .int .i64 s.w1, .int .i64 s.w2, .int .i64 s.t1, .int .i64 s.t2] true, AObj.cells [.int .u8 s.c, .int .i64 s.s1, .int .i64 s.s2, .int .i64 s.r1, .int .i64 s.r2, .int .i64 s.d1, .int .i64 s.d2, .int .i64 s.w1, .int .i64 s.w2, .int .i64 s.t1, .int .i64 s.t2] true, AObj.cells [.int .u8 s.c, .int .i64 (0), .int .i64 (m0), .int .i64 s.r1, .int .i64 s.r2, .int .i64 s.d1, .int .i64 s.d2, .int .i64 s.w1, .int .i64 s.w2, .int .i64 s.t1, .int .i64 s.t2, .slice id off l.length 9 ex] true]) (H.length + 3) 0 m0 m (by rw [rd_old _ hid]; exact hs) (by omega) (by rw [at_new]; rfl) (by omega)
        simp only [stS] at this
        rw [st] at this; exact this)
    (fun x y h1 h2 h3 h4 => stP_mono hv hk h1 h2 (by omega) h4)
  rw [show (200001 : Int).toNat = 200001 from rfl] at cM
  (with_reducible apply e_call); (simp; exact Red.rfl); exact cM
  rintro _ hh ⟨rfl, hG⟩
  generalize hr : leastF (stP s l) 200001 = r
  have hr0 : (r : Int) ≤ 200001 := by
    have := (leastF_is (stP s l) 200001).1; omega
  have hE : ∃ a b : Int, hh = H ++ [AObj.cells [.slice id off l.length 9 ex] true, AObj.cells [.int .u8 s.c, .int .i64 s.s1, .int .i64 s.s2, .int .i64 s.r1, .int .i64 s.r2, .int .i64 s.d1, .int .i64 s.d2, .int .i64 s.w1, .int .i64 s.w2, .int .i64 s.t1, .int .i64 s.t2] true, AObj.cells [.int .u8 s.c, .int .i64 s.s1, .int .i64 s.s2, .int .i64 s.r1, .int .i64 s.r2, .int .i64 s.d1, .int .i64 s.d2, .int .i64 s.w1, .int .i64 s.w2, .int .i64 s.t1, .int .i64 s.t2] true, AObj.cells [.int .u8 s.c, .int .i64 (a), .int .i64 (b), .int .i64 s.r1, .int .i64 s.r2, .int .i64 s.d1, .int .i64 s.d2, .int .i64 s.w1, .int .i64 s.w2, .int .i64 s.t1, .int .i64 s.t2, .slice id off l.length 9 ex] true] := by
    rcases hG with h | ⟨m0, h⟩
    · exact ⟨_, _, h⟩
    · exact ⟨_, _, h⟩
  obtain ⟨a, b, hE⟩ := hE
  rw [hE]
  by_cases h0 : r = 0
  · have h0' : (r : Int) = 0 := by omega
    repeat (first|(with_reducible first|apply X1|apply X2|apply X3|apply X8|apply X9)|((with_reducible apply e_end);(simp;exact Red.rfl))|((with_reducible apply O1);rfl;(simp (disch:=omega) [h0, h0'];exact Red.rfl);exact Red.rfl;(focus (first|(simp;done)|omega|(simp;omega))))|((with_reducible apply Z9);(simp (disch:=omega) [h0, h0'];exact Red.rfl)))
    refine q_drop (.inr rfl) (by simp; exact Red.rfl) (by simp) ⟨rfl, .inl ⟨h0, rfl⟩⟩
  · have h0' : ¬ (r : Int) = 0 := by omega
    repeat (first|(with_reducible first|apply X1|apply X2|apply X3|apply X5|apply X8)|((with_reducible apply e_end);(simp;exact Red.rfl))|((with_reducible apply O1);rfl;(simp (disch:=omega) [h0, h0'];exact Red.rfl);exact Red.rfl;(focus (first|(simp;done)|omega|(simp;omega))))|((with_reducible apply W3);(simp (disch:=omega) [h0, h0'];exact Red.rfl)))
    refine q_drop (.inr rfl) (by simp; exact Red.rfl) (by simp) ⟨rfl, .inr ⟨h0, rfl⟩⟩
end Go.Proofs
/- Ends of spans: tracks and sleds of which one number is left of each span. -/
namespace Go.Proofs
open Go.Abs
attribute [local simp] AOp.den AOpd.ev lk cellsOf rd_new rd_new0 rd_zero rd_succ wr_new wr_new0 wr_zero wr_succ splice fillA binA scal sliceCells List.length_append argsT AV.sc scL AObj.sc resV getAll AR.get AOp.slots opdSlots opdsSlots partSlots eqAt at_new0 at_new set_new0 set_new wrap64
set_option linter.unusedSimpArgs false
set_option linter.unusedVariables false
theorem c3_span (H : Heap) (a b : Int) : ACalls Try.prog F.law03_span [.int .i64 a, .int .i64 b] H (fun v h' => v = .agg [.int .i64 a, .int .i64 b] ∧ h' = H) := by
  refine acalls_of ok_law03_span rfl fun hcl => ?_
  unfold ac_law03_span
  simp only [argsT, Nat.zero_add, Nat.reduceAdd]
  repeat (first|(with_reducible first|apply X1|apply X2|apply X3|apply X8)|((with_reducible apply e_end);(simp;exact Red.rfl))|((first|((with_reducible apply O1);rfl)|((with_reducible apply O2);rfl));(simp (disch:=omega);exact Red.rfl);exact Red.rfl;(focus (first|(simp;done)|omega|(simp;omega)))))
  refine q_drop (.inr rfl) (by simp; exact Red.rfl) (by simp) ⟨rfl, rfl⟩

def lowS (x : Str) : Str := ⟨x.id, x.lHi, x.lHi, x.fLo, x.fLo, x.rHi, x.rHi, x.side, x.wall⟩
def highS (x : Str) : Str := ⟨x.id, x.lLo, x.lLo, x.fHi, x.fHi, x.rLo, x.rLo, x.side, x.wall⟩
def slowS (s : Sl) : Sl := ⟨s.c, s.s1, s.s1, s.r2, s.r2, s.d2, s.d2, s.w1, s.w1, s.t1, s.t1⟩
def fastS (s : Sl) : Sl := ⟨s.c, s.s2, s.s2, s.r1, s.r1, s.d1, s.d1, s.w2, s.w2, s.t2, s.t2⟩
/-- The list in which some stretches are done. -/
def doneS (g : Str → Str) (l : List Str) (i j : Nat) : Str := if j < i then g (strAt l j) else strAt l j

end Go.Proofs
/- SlideStart, the law's contract. -/
namespace Go.Proofs
open Go.Abs
attribute [local simp] AOp.den AOpd.ev lk cellsOf rd_new rd_new0 rd_zero rd_succ wr_new wr_new0 wr_zero wr_succ splice fillA binA scal sliceCells List.length_append argsT AV.sc scL AObj.sc resV getAll AR.get AOp.slots opdSlots opdsSlots partSlots eqAt at_new0 at_new set_new0 set_new wrap64
set_option linter.unusedSimpArgs false
set_option linter.unusedVariables false
theorem st_same (s : Sl) (l : List Str) : thN true (stS s s.s2) l = thN true s l := rfl
theorem kn_two {s : Sl} {l : List Str} : knF s l = 2 ↔ thN true s l = 0 := by
  unfold knF
  constructor
  · intro h; by_cases h0 : thN true s l = 0
    · exact h0
    · rw [if_neg h0] at h; split at h <;> omega
  · intro h; rw [if_pos h]
theorem c_from (H : Heap) (l : List Str) (s : Sl) (id off sid tid : Nat) (ex : Bool) (m : Int) (hs : rd H id off (l.length * 9) = some (l.flatMap Str.av)) (hv : validL l) (hk : s.ok) (hm : 0 ≤ m ∧ m ≤ 200000)
    (h1 : rd H sid 0 11 = some s.av) (h2 : rd H tid 0 1 = some [.slice id off l.length 9 ex]) :
    ACalls Try.prog F.law03_SlideStart_1 [.int .i64 m, .ptr sid 0, .ptr tid 0] H (fun v h' => v = .bool (!stP s l m) ∧ h' = H) := by
  have hid := rd_lt hs
  have hsid := rd_lt h1
  have htid := rd_lt h2
  have csf := fun H' h => c_Safe H' l id off ex (stS s m) h hv (st_ok hk hm)
  have hkn := kn_two (s := stS s m) (l := l)
  have e : stP s l m = !decide (knF (stS s m) l = 2) := by
    unfold stP; congr 1; exact decide_eq_decide.2 hkn.symm
  generalize knF (stS s m) l = K at csf e
  rw [e]
  simp only [Sl.av, stS] at csf h1
  refine acalls_of ok_law03_SlideStart_1 rfl fun hcl => ?_
  unfold ac_law03_SlideStart_1
  simp only [argsT, Nat.zero_add, Nat.reduceAdd]
  repeat (first|(with_reducible first|apply X1|apply X2|apply X8)|((with_reducible apply e_end);(simp;exact Red.rfl))|((first|((with_reducible apply O1);rfl)|((with_reducible apply O2);rfl));(simp (disch:=omega) [h1];exact Red.rfl);exact Red.rfl;(focus (first|(simp;done)|omega|(simp;omega)))))
  (with_reducible apply e_call); (simp; exact Red.rfl); exact c3_span _ _ _
  rintro _ _ ⟨rfl, rfl⟩
  repeat (first|(with_reducible first|apply X1|apply X2|apply X8)|((with_reducible apply e_end);(simp;exact Red.rfl))|((first|((with_reducible apply O1);rfl)|((with_reducible apply O2);rfl));(simp (disch:=omega) [rd_old _ htid, h2];exact Red.rfl);exact Red.rfl;(focus (first|(simp;done)|omega|(simp;omega)))))
  (with_reducible apply e_call); (simp; exact Red.rfl); exact csf _ (by rw [rd_old _ hid]; exact hs)
  rintro _ _ ⟨rfl, rfl⟩
  repeat (first|(with_reducible first|apply X1|apply X2|apply X3|apply X8)|((with_reducible apply e_end);(simp;exact Red.rfl))|((with_reducible apply O1);rfl;(simp (disch:=omega);exact Red.rfl);exact Red.rfl;(focus (first|(simp;done)|omega|(simp;omega))))|((with_reducible apply Z7);(simp (disch:=omega);exact Red.rfl)))
  refine q_drop (.inr rfl) (by simp; exact Red.rfl) (by simp) ⟨by simp, rfl⟩

set_option maxHeartbeats 4000000 in
theorem c_lawSS (H : Heap) (l : List Str) (s : Sl) (lw : Int) (id off : Nat) (ex : Bool) (hs : rd H id off (l.length * 9) = some (l.flatMap Str.av)) (hc : 0 ≤ s.c ∧ s.c ≤ 255) (hlw : 0 ≤ lw ∧ lw ≤ 4294967295) :
    ACalls Try.prog F.law03_SlideStart [.agg [.slice id off l.length 9 ex], .agg s.av, .int .u32 lw] H (fun v _ => v = .bool true) := by
  have hid := rd_lt hs
  have ca : ∀ H, ACalls Try.prog F.law03_alive [] H (fun v h => v = .bool true ∧ h = H) := Try.true40
  have cr := fun H' h => c_sready H' l id off ex s h hc
  have cst := fun hv hk H' h => c_Start H' l id off ex s h hv hk
  have csf := fun hv hk H' h => c_Safe H' l id off ex s h hv hk
  have cfr := fun hv hk H' sid tid m h hm h1 h2 => c_from H' l s id off sid tid ex m h hv hk hm h1 h2
  simp only [Sl.av] at cr cst csf cfr ⊢
  refine acalls_of ok_law03_SlideStart rfl fun hcl => ?_
  unfold ac_law03_SlideStart
  simp only [argsT, Nat.zero_add, Nat.reduceAdd]
  repeat (first|(with_reducible first|apply X1|apply X2|apply X8)|((with_reducible apply e_end);(simp;exact Red.rfl))|((with_reducible apply O1);rfl;(simp (disch:=omega);exact Red.rfl);exact Red.rfl;(focus (first|(simp;done)|omega|(simp;omega)))))
  (with_reducible apply e_call); (simp; exact Red.rfl); exact ca _
  rintro _ _ ⟨rfl, rfl⟩
  repeat (first|(with_reducible first|apply X1|apply X2|apply X8)|((with_reducible apply e_end);(simp;exact Red.rfl))|((with_reducible apply O1);rfl;(simp (disch:=omega);exact Red.rfl);exact Red.rfl;(focus (first|(simp;done)|omega|(simp;omega)))))
  (with_reducible apply e_call); (simp; exact Red.rfl); exact cr _ (by rw [rd_old _ hid]; exact hs)
  rintro _ _ ⟨rfl, b, rfl, hbv⟩
  cases b with
  | false =>
    repeat (first|(with_reducible first|apply X1|apply X2|apply X3|apply X8|apply X9)|((with_reducible apply e_end);(simp;exact Red.rfl))|((with_reducible apply O1);rfl;(simp (disch:=omega);exact Red.rfl);exact Red.rfl;(focus (first|(simp;done)|omega|(simp;omega))))|((with_reducible apply Z9);(simp (disch:=omega);exact Red.rfl))|((with_reducible apply Z2);(simp (disch:=omega);exact Red.rfl)))
    refine q_drop (.inr rfl) (by simp; exact Red.rfl) (by simp) rfl
  | true =>
    obtain ⟨hv, hk⟩ := hbv.1 rfl
    have h12 := hv.1
    have hs1 := hk.2.1
    have hR := leastF_is (stP s l) 200001
    have hkn := kn_two (s := s) (l := l)
    have hsame : stP s l s.s2 = !decide (knF s l = 2) := by
      unfold stP; rw [st_same]; congr 1; exact decide_eq_decide.2 hkn.symm
    repeat (first|(with_reducible first|apply X1|apply X2|apply X5|apply X8)|((with_reducible apply e_end);(simp;exact Red.rfl))|((with_reducible apply O1);rfl;(simp (disch:=omega);exact Red.rfl);exact Red.rfl;(focus (first|(simp;done)|omega|(simp;omega))))|((with_reducible apply Z7);(simp (disch:=omega);exact Red.rfl))|((with_reducible apply W3);(simp (disch:=omega);exact Red.rfl)))
    (with_reducible apply e_call); (simp; exact Red.rfl); exact cst hv hk _ (by rw [rd_old _ hid]; exact hs)
    rintro _ _ ⟨rfl, ⟨h0, rfl⟩ | ⟨h0, rfl⟩⟩
    · have p0 : stP s l 0 = true := by have := hR.2.2 (by omega); rw [h0] at this; exact this
      repeat (first|(with_reducible first|apply X1|apply X2|apply X8)|((with_reducible apply e_end);(simp;exact Red.rfl))|((with_reducible apply O1);rfl;(simp (disch:=omega);exact Red.rfl);exact Red.rfl;(focus (first|(simp;done)|omega|(simp;omega))))|((with_reducible first|apply Z7|apply Z9);(simp (disch:=omega);exact Red.rfl)))
      (with_reducible apply e_callV); (simp; exact Red.rfl); (simp; exact Red.rfl); exact cfr hv hk _ (H.length + 1) H.length 0 (by rw [rd_old _ hid]; exact hs) (by omega) (by simp) (by simp)
      rintro _ _ ⟨rfl, rfl⟩
      rw [p0]
      repeat (first|(with_reducible first|apply X3|apply X8|apply X9)|((with_reducible apply e_end);(simp;exact Red.rfl))|((with_reducible apply O1);rfl;(simp (disch:=omega);exact Red.rfl);exact Red.rfl;(focus (first|(simp;done)|omega|(simp;omega))))|((with_reducible apply Z7);(simp (disch:=omega);exact Red.rfl)))
      refine q_drop (.inr rfl) (by simp; exact Red.rfl) (by simp) rfl
    · generalize leastF (stP s l) 200001 = R at hR h0
      obtain ⟨g1, g2, g3⟩ := hR
      have q0 : ¬ ((R : Int) - 1 < 0) := by omega
      have q1 : ¬ (200000 < (R : Int) - 1) := by omega
      have pn : stP s l ((R : Int) - 1) = false := by
        have := g2 (R - 1) (by omega)
        rwa [show ((R - 1 : Nat) : Int) = (R : Int) - 1 by omega] at this
      have hR0 : ¬ ((R : Int) - 1 + 1 = 0) := by omega
      have hm : lw.tmod R = lw % R := Int.tmod_eq_emod_of_nonneg hlw.1
      have m1 := Int.emod_nonneg lw (show (R : Int) ≠ 0 by omega)
      have m2 := Int.emod_lt_of_pos lw (show (0 : Int) < R by omega)
      generalize lw % R = x at hm m1 m2
      have px : stP s l x = false := by
        have := g2 x.toNat (by omega)
        rwa [Int.toNat_of_nonneg m1] at this
      repeat (first|(with_reducible first|apply X1|apply X2|apply X5|apply X8)|((with_reducible apply e_end);(simp;exact Red.rfl))|((with_reducible apply O1);rfl;(simp (disch:=omega) [q0, q1];exact Red.rfl);exact Red.rfl;(focus (first|(simp;done)|omega|(simp;omega))))|((with_reducible apply Z7);(simp (disch:=omega) [q0, q1];exact Red.rfl))|((with_reducible apply W3);(simp (disch:=omega) [q0, q1];exact Red.rfl)))
      (with_reducible apply e_callV); (simp; exact Red.rfl); (simp; exact Red.rfl); exact cfr hv hk _ (H.length + 1) H.length _ (by rw [rd_old _ hid]; exact hs) (by omega) (by simp) (by simp)
      rintro _ _ ⟨rfl, rfl⟩
      rw [pn]
      have e1 : (R : Int) - 1 + 1 = R := by omega
      have r0 : ¬ R = 0 := h0
      repeat (first|((with_reducible apply O1);rfl;(simp (disch:=omega) [e1, hm, r0];exact Red.rfl);exact Red.rfl;(focus (first|(simp;done)|omega|(simp;omega))))|((with_reducible apply Z7);(simp (disch:=omega) [e1, hm, r0];exact Red.rfl)))
      (with_reducible apply e_callV); (simp; exact Red.rfl); (simp; exact Red.rfl); exact cfr hv hk _ (H.length + 1) H.length _ (by rw [rd_old _ hid]; exact hs) (by omega) (by simp) (by simp)
      rintro _ _ ⟨rfl, rfl⟩
      rw [px]
      have hfin : (knF s l = 2 ↔ s.s2 ≤ (R : Int) - 1) := by
        constructor
        · intro h
          rcases Int.lt_or_le ((R : Int) - 1) s.s2 with h1 | h1
          · exfalso
            have p1 : stP s l R = true := g3 (by omega)
            have p2 := stP_mono hv hk (a := R) (b := s.s2) (by omega) (by omega) (by omega) p1
            rw [hsame, h] at p2; simp at p2
          · exact h1
        · intro h
          have p1 := g2 s.s2.toNat (by omega)
          rw [Int.toNat_of_nonneg (by omega), hsame] at p1
          simpa using p1
      have csf' := csf hv hk
      clear hsame hkn csf
      generalize knF s l = K at hfin csf'
      by_cases hlt : (R : Int) - 1 < 200000
      · have pr : stP s l R = true := g3 (by omega)
        repeat (first|((with_reducible apply O1);rfl;(simp (disch:=omega) [hlt, e1];exact Red.rfl);exact Red.rfl;(focus (first|(simp;done)|omega|(simp;omega))))|((with_reducible apply Z7);(simp (disch:=omega) [hlt, e1];exact Red.rfl)))
        (with_reducible apply e_callV); (simp; exact Red.rfl); (simp; exact Red.rfl); exact cfr hv hk _ (H.length + 1) H.length _ (by rw [rd_old _ hid]; exact hs) (by omega) (by simp) (by simp)
        rintro _ _ ⟨rfl, rfl⟩
        rw [pr]
        repeat (first|(with_reducible first|apply X1|apply X2|apply X5|apply X8)|((with_reducible apply e_end);(simp;exact Red.rfl))|((with_reducible apply O1);rfl;(simp (disch:=omega);exact Red.rfl);exact Red.rfl;(focus (first|(simp;done)|omega|(simp;omega))))|((with_reducible apply Z7);(simp (disch:=omega);exact Red.rfl))|((with_reducible apply W3);(simp (disch:=omega);exact Red.rfl)))
        (with_reducible apply e_call); (simp; exact Red.rfl); exact csf' _ (by simp only [List.append_assoc, rd_old _ hid]; exact hs)
        rintro _ _ ⟨rfl, rfl⟩
        by_cases hK : K = 2
        · have h1 := hfin.1 hK
          have h2 : ¬ (R : Int) - 1 < s.s2 := by omega
          repeat (first|(with_reducible first|apply X1|apply X2|apply X3|apply X8)|((with_reducible apply e_end);(simp;exact Red.rfl))|((with_reducible apply O1);rfl;(simp (disch:=omega) [hK, h1, h2];exact Red.rfl);exact Red.rfl;(focus (first|(simp;done)|omega|(simp;omega))))|((with_reducible apply Z7);(simp (disch:=omega) [hK, h1, h2];exact Red.rfl))|((with_reducible apply Z2);(simp (disch:=omega) [hK, h1, h2];exact Red.rfl)))
          refine q_drop (.inr rfl) (by simp; exact Red.rfl) (by simp) rfl
        · have h1 : ¬ s.s2 ≤ (R : Int) - 1 := fun h => hK (hfin.2 h)
          have h2 : (R : Int) - 1 < s.s2 := by omega
          repeat (first|(with_reducible first|apply X1|apply X2|apply X3|apply X8)|((with_reducible apply e_end);(simp;exact Red.rfl))|((with_reducible apply O1);rfl;(simp (disch:=omega) [hK, h1, h2];exact Red.rfl);exact Red.rfl;(focus (first|(simp;done)|omega|(simp;omega))))|((with_reducible apply Z7);(simp (disch:=omega) [hK, h1, h2];exact Red.rfl))|((with_reducible apply Z2);(simp (disch:=omega) [hK, h1, h2];exact Red.rfl)))
          refine q_drop (.inr rfl) (by simp; exact Red.rfl) (by simp) rfl
      · repeat (first|(with_reducible first|apply X1|apply X2|apply X5|apply X8)|((with_reducible apply e_end);(simp;exact Red.rfl))|((with_reducible apply O1);rfl;(simp (disch:=omega) [hlt];exact Red.rfl);exact Red.rfl;(focus (first|(simp;done)|omega|(simp;omega))))|((with_reducible apply Z7);(simp (disch:=omega) [hlt];exact Red.rfl))|((with_reducible apply Z1);(simp (disch:=omega) [hlt];exact Red.rfl))|((with_reducible apply W3);(simp (disch:=omega) [hlt];exact Red.rfl)))
        (with_reducible apply e_call); (simp; exact Red.rfl); exact csf' _ (by simp only [List.append_assoc, rd_old _ hid]; exact hs)
        rintro _ _ ⟨rfl, rfl⟩
        by_cases hK : K = 2
        · have h1 := hfin.1 hK
          have h2 : ¬ (R : Int) - 1 < s.s2 := by omega
          repeat (first|(with_reducible first|apply X1|apply X2|apply X3|apply X8)|((with_reducible apply e_end);(simp;exact Red.rfl))|((with_reducible apply O1);rfl;(simp (disch:=omega) [hK, h1, h2];exact Red.rfl);exact Red.rfl;(focus (first|(simp;done)|omega|(simp;omega))))|((with_reducible apply Z7);(simp (disch:=omega) [hK, h1, h2];exact Red.rfl))|((with_reducible apply Z2);(simp (disch:=omega) [hK, h1, h2];exact Red.rfl)))
          refine q_drop (.inr rfl) (by simp; exact Red.rfl) (by simp) rfl
        · have h1 : ¬ s.s2 ≤ (R : Int) - 1 := fun h => hK (hfin.2 h)
          have h2 : (R : Int) - 1 < s.s2 := by omega
          repeat (first|(with_reducible first|apply X1|apply X2|apply X3|apply X8)|((with_reducible apply e_end);(simp;exact Red.rfl))|((with_reducible apply O1);rfl;(simp (disch:=omega) [hK, h1, h2];exact Red.rfl);exact Red.rfl;(focus (first|(simp;done)|omega|(simp;omega))))|((with_reducible apply Z7);(simp (disch:=omega) [hK, h1, h2];exact Red.rfl))|((with_reducible apply Z2);(simp (disch:=omega) [hK, h1, h2];exact Red.rfl)))
          refine q_drop (.inr rfl) (by simp; exact Red.rfl) (by simp) rfl
end Go.Proofs
