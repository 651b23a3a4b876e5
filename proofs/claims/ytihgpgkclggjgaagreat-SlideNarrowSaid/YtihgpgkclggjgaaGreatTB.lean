/- Several texts as one. -/
import Derived.Test.YtihgpgkclggjgaaGreatTA
import Derived.Test.YtihgpgkclggjgaaGreatSC
/- Curves that throw a sled. -/
namespace Go.Proofs
open Go.Abs
attribute [local simp] AOp.den AOpd.ev lk cellsOf rd_new rd_new0 rd_zero rd_succ wr_new wr_new0 wr_zero wr_succ splice fillA binA scal sliceCells List.length_append argsT AV.sc scL AObj.sc resV getAll AR.get AOp.slots opdSlots opdsSlots partSlots eqAt at_new0 at_new set_new0 set_new wrap64
set_option linter.unusedSimpArgs false
set_option linter.unusedVariables false
def mpV (w : Nat → Int) (xs : List Nat) : List (AV × AV) := xs.map fun (j : Nat) => (.int .i64 (j : Int), .int .i64 (w j))
def moX (w : Nat → Int) (xs : List Nat) (c : Nat) : AObj := .other (.map (mpV w xs) xs c)
theorem keyEq_nat (a b : Nat) : keyEq (.one .int) (.int .i64 (a : Int)) (.int .i64 (b : Int)) = some (decide (a = b)) := by
  have e : ((a : Int) = b) = (a = b) := propext Int.ofNat_inj
  simp only [keyEq, eqCell, if_true, e]
theorem findV_not (w : Nat → Int) (k : Nat) : ∀ xs : List Nat, ¬ k ∈ xs → findA (.one .int) (.int .i64 (k : Int)) (mpV w xs) = some none
  | [], _ => rfl
  | a :: r, h => by
    have h1 : ¬ k = a := fun e => h (by simp [e])
    have h2 := findV_not w k r (fun e => h (List.mem_cons_of_mem _ e))
    have e : mpV w (a :: r) = (.int .i64 (a : Int), .int .i64 (w a)) :: mpV w r := rfl
    rw [e]
    simp only [findA, keyEq_nat, h1, decide_false, h2]
theorem findV_mem (w : Nat → Int) (k : Nat) : ∀ xs : List Nat, k ∈ xs → ∃ p : Nat, xs[p]? = some k ∧ findA (.one .int) (.int .i64 (k : Int)) (mpV w xs) = some (some p)
  | [], h => by cases h
  | a :: r, h => by
    have e : mpV w (a :: r) = (.int .i64 (a : Int), .int .i64 (w a)) :: mpV w r := rfl
    by_cases h1 : k = a
    · subst h1
      exact ⟨0, rfl, by rw [e]; simp only [findA, keyEq_nat, decide_true]⟩
    · have h2 : k ∈ r := by
        rcases List.mem_cons.1 h with h | h
        · exact absurd h h1
        · exact h
      obtain ⟨p, q1, q2⟩ := findV_mem w k r h2
      exact ⟨p + 1, by simpa using q1, by rw [e]; simp only [findA, keyEq_nat, h1, decide_false, q2]⟩
theorem mpV_get (w : Nat → Int) {xs : List Nat} {p k : Nat} (h : xs[p]? = some k) : (mpV w xs)[p]? = some (.int .i64 (k : Int), .int .i64 (w k)) := by
  simp [mpV, h]
theorem erase_map {α β : Type} (f : α → β) : ∀ (xs : List α) (p : Nat), (xs.map f).eraseIdx p = (xs.eraseIdx p).map f
  | [], _ => rfl
  | _ :: _, 0 => rfl
  | a :: xs, p + 1 => by simp only [List.map_cons, List.eraseIdx_cons_succ, erase_map f xs p]
theorem erase_nd {k : Nat} : ∀ {xs : List Nat} {p : Nat}, xs.Nodup → xs[p]? = some k → xs.eraseIdx p = xs.filter fun j => decide (j ≠ k)
  | [], p, _, h => by simp at h
  | a :: r, 0, hd, h => by
    simp at h; subst h
    have h1 := List.nodup_cons.1 hd
    rw [List.eraseIdx_cons_zero, List.filter_cons_of_neg (by simp)]
    exact (List.filter_eq_self.2 fun x hx => by
      have : x ≠ a := by rintro rfl; exact h1.1 hx
      simpa using this).symm
  | a :: r, p + 1, hd, h => by
    have h1 := List.nodup_cons.1 hd
    have hk : k ∈ r := List.mem_of_getElem? (by simpa using h)
    have hne : a ≠ k := by rintro rfl; exact h1.1 hk
    rw [List.eraseIdx_cons_succ, List.filter_cons_of_pos (by simpa using hne), erase_nd h1.2 (by simpa using h)]
theorem den_getV {m i : AOpd} {ev : AOpd → AV} {h : Heap} {id k c : Nat} {w : Nat → Int} {xs : List Nat} (hm : ev m = .map id) (hi : ev i = .int .i64 (k : Int)) (hh : h[id]? = some (moX w xs c)) (hk : k ∈ xs) :
    (AOp.mapGet false (.int .i64 0) (.one .int) m i).den ev h = .ok True (.int .i64 (w k)) h := by
  obtain ⟨p, q1, q2⟩ := findV_mem w k xs hk
  simp only [AOp.den, AOp.fx, hm, hi, keyEq_nat, mapAt, hh, moX, Option.isSome_some, if_true, q2, mpV_get w q1]
  simp
theorem den_putV {m i x : AOpd} {ev : AOpd → AV} {h : Heap} {id k c : Nat} {w : Nat → Int} {xs : List Nat} (hm : ev m = .map id) (hi : ev i = .int .i64 (k : Int)) (hx : ev x = .int .i64 (w k)) (hh : h[id]? = some (moX w xs c)) (hk : ¬ k ∈ xs) (hc : c = k) :
    (AOp.mapPut (.one .int) m i x).den ev h = .ok True (.tuple []) (h.set id (moX w (xs ++ [k]) (c + 1))) := by
  simp only [AOp.den, AOp.fx, hm, hi, hx, keyEq_nat, hh, moX, Option.isSome_some, if_true, findV_not w k xs hk]
  simp [mpV, hc]
theorem den_delV {m i : AOpd} {ev : AOpd → AV} {h : Heap} {id k c : Nat} {w : Nat → Int} {xs : List Nat} (hm : ev m = .map id) (hi : ev i = .int .i64 (k : Int)) (hh : h[id]? = some (moX w xs c)) (hk : k ∈ xs) (hd : xs.Nodup) :
    (AOp.mapDel (.one .int) m i).den ev h = .ok True (.tuple []) (h.set id (moX w (xs.filter fun j => decide (j ≠ k)) c)) := by
  obtain ⟨p, q1, q2⟩ := findV_mem w k xs hk
  have e : (mpV w xs).eraseIdx p = mpV w (xs.filter fun j => decide (j ≠ k)) := by
    rw [← erase_nd hd q1]; simp only [mpV, erase_map]
  simp only [AOp.den, AOp.fx, hm, hi, keyEq_nat, hh, moX, Option.isSome_some, if_true, q2, e, erase_nd hd q1]
def thrB (t : Bool) (s : Sl) (l : List Str) (i : Nat) : Bool := decide ((strAt l i).side ≠ 0 ∧ (strAt l i).wall < htF (wiF (hd t s l) i) (dn t (strAt l i).rLo (strAt l i).rHi) (up t s.t1 s.t2))
def thL (t : Bool) (s : Sl) (l : List Str) : List Nat := (List.range l.length).filter (thrB t s l)
def leL (th : Nat → Bool) (n i : Nat) : List Nat := (List.range n).filter fun j => decide (i ≤ j) || th j
theorem le_zero (th : Nat → Bool) (n : Nat) : leL th n 0 = List.range n := List.filter_eq_self.2 fun _ _ => by simp
theorem le_end (th : Nat → Bool) (n : Nat) : leL th n n = (List.range n).filter th := List.filter_congr fun j hj => by
  have := List.mem_range.1 hj
  simp [show ¬ n ≤ j by omega]
theorem le_keepT {th : Nat → Bool} {n i : Nat} (h : th i = true) : leL th n (i + 1) = leL th n i := List.filter_congr fun j _ => by
  by_cases hj : j = i
  · subst hj; simp [h]
  · have : (i + 1 ≤ j) = (i ≤ j) := propext (by omega)
    simp [this]
theorem le_dropF {th : Nat → Bool} {n i : Nat} (h : th i = false) : (leL th n i).filter (fun j => decide (j ≠ i)) = leL th n (i + 1) := by
  unfold leL
  rw [List.filter_filter]
  refine List.filter_congr fun j _ => ?_
  by_cases hj : j = i
  · subst hj; simp [h]
  · have : (i + 1 ≤ j) = (i ≤ j) := propext (by omega)
    simp [this, hj]
theorem le_mem {th : Nat → Bool} {n i : Nat} (h : i < n) : i ∈ leL th n i := List.mem_filter.2 ⟨List.mem_range.2 h, by simp⟩
theorem le_nd (th : Nat → Bool) (n i : Nat) : (leL th n i).Nodup := List.Pairwise.filter _ List.nodup_range

theorem c_throws (t : Bool) (H : Heap) (s : Sl) (l : List Str) (id off : Nat) (ex : Bool) (hs : rd H id off (l.length * 9) = some (l.flatMap Str.av)) (hv : validL l) (hk : s.ok) (i : Nat) (hi : i < l.length) (x : Int) (hx : 0 ≤ x ∧ x ≤ 260000) (hc : (strAt l i).side ≠ 0) :
    ACalls Tryz.prog F.slide_truth_throws [.agg (trv t s (.slice id off l.length 9 ex)), .int .i64 i, .int .i64 x] H (fun v h' => v = .bool (decide ((strAt l i).wall < htF x (dn t (strAt l i).rLo (strAt l i).rHi) (up t s.t1 s.t2))) ∧ h' = H) := by
  have hid := rd_lt hs
  have chh := fun H' h => c_height t H' s l id off ex h hk i hi x hx (curve_rad hv hi hc)
  have hrow := rd_row Str.av_length hs hi
  have hst := strAt_eq hi
  have hi2 : (i : Int) < l.length := by omega
  generalize htF x (dn t (strAt l i).rLo (strAt l i).rHi) (up t s.t1 s.t2) = ht at chh ⊢
  rw [hst]
  generalize hsi : l[i] = st at hrow
  obtain ⟨b1, b2, b3, b4, b5, b6, b7, b8, b9⟩ := st
  simp only [Str.av] at hrow
  have hx2 : rd H id (off + i * 9 + 8) 1 = some [.int .i64 b9] := by simpa using rd_sub hrow (show 8 + 1 ≤ 9 by omega)
  simp only [trv, Sl.av, List.cons_append, List.nil_append] at chh ⊢
  refine acalls_of ok_slide_truth_throws rfl fun hcl => ?_
  unfold ac_slide_truth_throws
  simp only [argsT, Nat.zero_add, Nat.reduceAdd]
  repeat (first|(with_reducible first|apply X1|apply X2|apply X8|apply Y9)|((with_reducible apply e_end);(simp;exact Red.rfl))|((first|((with_reducible apply O1);rfl)|((with_reducible apply P1);rfl)|((with_reducible apply P2);rfl));(simp (disch:=omega);exact Red.rfl);exact Red.rfl;(focus (first|(simp;done)|omega|(simp;omega)))))
  (with_reducible apply d_call); (simp; exact Red.rfl); exact chh _ (by rw [rd_old _ hid]; exact hs); (focus (first | (simp; done) | (simp; omega)))
  repeat (first|(with_reducible first|apply X3|apply X8)|((with_reducible apply d_end);(simp;exact Red.rfl))|((with_reducible apply P1);rfl;(simp (disch:=omega) [rd_old _ hid, hx2, hi, hi2];exact Red.rfl);exact Red.rfl;(focus (first|(simp;done)|omega|(simp;omega))))|((with_reducible apply P6);rfl;(simp (disch:=omega) [rd_old _ hid, hx2, hi, hi2];exact Red.rfl);exact Red.rfl;(focus (first|(simp [pr];done)|(simp [pr];omega)))))
  refine q_drop (.inr rfl) (by simp; exact Red.rfl) (by simp) ⟨rfl, rfl⟩
def thK (t : Bool) (s : Sl) (l : List Str) (p : Nat) : Int := ((thL t s l).getD p 0 : Nat)
set_option maxHeartbeats 2000000 in
theorem c_throwing (t : Bool) (H : Heap) (s : Sl) (l : List Str) (id off : Nat) (ex : Bool) (hs : rd H id off (l.length * 9) = some (l.flatMap Str.av)) (hv : validL l) (hk : s.ok) :
    ACalls Tryz.prog F.slide_truth_throwing [.agg (trv t s (.slice id off l.length 9 ex))] H (fun v h' => v = lV H (thL t s l).length ∧ h' = H ++ lO (thL t s l).length (thK t s l)) := by
  have hid := rd_lt hs
  have h12 := hv.1
  have cw := fun H' h => c_swithin t H' s l id off ex h hv hk
  have cth := fun i hi hc H' h x hx => c_throws t H' s l id off ex h hv hk i hi x hx hc
  have wl := (plain_r1 (wiF (hd t s l))).length l.length
  have plW := (plain_r1 (wiF (hd t s l))).plain l.length
  simp only [trv, Sl.av, List.cons_append, List.nil_append] at cw cth ⊢
  refine acalls_of ok_slide_truth_throwing rfl fun hcl => ?_
  unfold ac_slide_truth_throwing
  simp only [argsT, Nat.zero_add, Nat.reduceAdd]
  repeat (first|(with_reducible first|apply X1|apply X2|apply X8)|((with_reducible apply e_end);(simp;exact Red.rfl))|((with_reducible apply O1);rfl;(simp (disch:=omega);exact Red.rfl);exact Red.rfl;(focus (first|(simp;done)|omega|(simp;omega)))))
  (with_reducible apply e_call); (simp; exact Red.rfl); exact cw _ (by rw [rd_old _ hid]; exact hs)
  rintro _ _ ⟨rfl, rfl⟩
  repeat (first|(with_reducible first|apply X6|apply X8)|((with_reducible apply e_end);(simp;exact Red.rfl))|((with_reducible apply O1);rfl;(simp (disch:=omega);exact Red.rfl);exact Red.rfl;(focus (first|(simp;done)|omega|(simp;omega)))))
  refine e_loop (ι := { i : Nat // i ≤ l.length })
    (fun i => [(1, .ptr H.length 0), (3, .map (H.length + 1)), (9, .slice (H.length + 2) 0 l.length 1 true), (10, .int .i64 l.length), (11, .int .i64 i.1)])
    (fun i => H ++ [.cells [.int .u8 s.c, .int .i64 s.s1, .int .i64 s.s2, .int .i64 s.r1, .int .i64 s.r2, .int .i64 s.d1, .int .i64 s.d2, .int .i64 s.w1, .int .i64 s.w2, .int .i64 s.t1, .int .i64 s.t2, .slice id off l.length 9 ex, .fn (.func (moF t)) [] [], .fn (.func (leF t)) [] []] true, moX (wiF (hd t s l)) (List.range i.1) i.1, .cells (avR (r1 (wiF (hd t s l))) l.length) true]) (fun i => l.length - i.1) ⟨0, by simp⟩ ?_ ?_
  · exact .inl rfl
  · rintro ⟨i, hi⟩
    dsimp only
    by_cases hlt : i < l.length
    · have hlt2 : (i : Int) < l.length := by omega
      have le1 : i + 1 ≤ l.length := hlt
      have q1 : ((avR (r1 (wiF (hd t s l))) l.length).drop i).take 1 = [.int .i64 (wiF (hd t s l) i)] := by
        simpa [r1] using (plain_r1 (wiF (hd t s l))).part (n := l.length) (i := i) (c := 0) (m := 1) hlt (by omega)
      repeat (first|(with_reducible first|apply X1|apply X2|apply X5|apply X6|apply X8)|((with_reducible apply e_end);(simp;exact Red.rfl))|((with_reducible apply O1);rfl;(simp (disch:=omega) [hlt, hlt2, le1, q1, wl];exact Red.rfl);exact Red.rfl;(focus (first|(simp;done)|omega|(simp;omega))))|((with_reducible apply Z9);(simp (disch:=omega) [hlt, hlt2, le1, q1, wl];exact Red.rfl)))
      refine e_do (op := .mapPut _ _ _ _) rfl (den_putV (k := i) (w := wiF (hd t s l)) (xs := List.range i) (c := i) rfl rfl rfl (by rw [at_new]; rfl) (by simp) rfl) Red.rfl trivial ?_
      rw [set_new, ← List.range_succ]
      repeat (first|(with_reducible first|apply X2|apply X8|apply Y2)|((with_reducible apply e_end);(simp;exact Red.rfl))|((with_reducible apply O1);rfl;(simp (disch:=omega);exact Red.rfl);exact Red.rfl;(focus (first|(simp;done)|omega|(simp;omega)))))
      exact q_again ⟨i + 1, by omega⟩ (by dsimp only; omega) (.inl rfl)
    · obtain rfl : i = l.length := by omega
      clear hlt hi
      repeat (first|(with_reducible first|apply X1|apply X2|apply X4|apply X6|apply X8|apply Y1|apply Y4|apply Y6)|((with_reducible apply e_end);(simp;exact Red.rfl))|((with_reducible apply O1);rfl;(simp (disch:=omega);exact Red.rfl);exact Red.rfl;(focus (first|(simp;done)|omega|(simp;omega))))|((with_reducible apply W3);(simp (disch:=omega);exact Red.rfl)))
      rw [← le_zero (thrB t s l)]
      refine e_loop (ι := { i : Nat // i ≤ l.length })
        (fun i => [(1, .ptr H.length 0), (3, .map (H.length + 1)), (23, .int .i64 l.length), (24, .int .i64 i.1)])
        (fun i => H ++ [.cells [.int .u8 s.c, .int .i64 s.s1, .int .i64 s.s2, .int .i64 s.r1, .int .i64 s.r2, .int .i64 s.d1, .int .i64 s.d2, .int .i64 s.w1, .int .i64 s.w2, .int .i64 s.t1, .int .i64 s.t2, .slice id off l.length 9 ex, .fn (.func (moF t)) [] [], .fn (.func (leF t)) [] []] true, moX (wiF (hd t s l)) (leL (thrB t s l) l.length i.1) l.length, .cells (avR (r1 (wiF (hd t s l))) l.length) true]) (fun i => l.length - i.1) ⟨0, by simp⟩ ?_ ?_
      · exact .inl rfl
      · rintro ⟨i, hi⟩
        dsimp only
        by_cases hlt : i < l.length
        · have hlt2 : (i : Int) < l.length := by omega
          have hx := rd_row Str.av_length hs hlt
          have hst := strAt_eq hlt
          rw [← hst] at hx
          have cb := wi_bd hv hk t hlt
          have hsr := str_rad hv hlt
          have cst := fun H' b hb => c_straight H' (strAt l i) (b := b) hb
          have cth := cth i hlt
          have hthr : thrB t s l i = decide ((strAt l i).side ≠ 0 ∧ (strAt l i).wall < htF (wiF (hd t s l) i) (dn t (strAt l i).rLo (strAt l i).rHi) (up t s.t1 s.t2)) := rfl
          generalize strAt l i = st at hx hsr cst cth hthr
          obtain ⟨a1, a2, a3, a4, a5, a6, a7, a8, a9⟩ := st
          simp only [Str.av] at hx cst
          dsimp only at hsr cst cth hthr
          repeat (first|(with_reducible first|apply X1|apply X2|apply X5|apply X6|apply X8)|((with_reducible apply e_end);(simp;exact Red.rfl))|((with_reducible apply O1);rfl;(simp (disch:=omega) [hlt, hlt2, rd_old _ hid, hx];exact Red.rfl);exact Red.rfl;(focus (first|(simp;done)|omega|(simp;omega))))|((with_reducible apply Z9);(simp (disch:=omega) [hlt, hlt2, rd_old _ hid, hx];exact Red.rfl)))
          by_cases hside : a8 = 0
          · (with_reducible apply e_call); (simp; exact Red.rfl); exact cst _ true (by simp [hsr, hside])
            rintro _ _ ⟨rfl, rfl⟩
            repeat (first|(with_reducible first|apply X2|apply X8)|((with_reducible apply e_end);(simp;exact Red.rfl))|((with_reducible apply O1);rfl;(simp (disch:=omega);exact Red.rfl);exact Red.rfl;(focus (first|(simp;done)|omega|(simp;omega))))|((with_reducible apply Z9);(simp (disch:=omega);exact Red.rfl))|((with_reducible apply Z2);(simp (disch:=omega);exact Red.rfl)))
            have hf : thrB t s l i = false := by rw [hthr]; simp [hside]
            refine e_do (op := .mapDel _ _ _) rfl (den_delV (k := i) (w := wiF (hd t s l)) rfl rfl (by rw [at_new]; rfl) (le_mem hlt) (le_nd _ _ _)) Red.rfl trivial ?_
            rw [set_new, le_dropF hf]
            repeat (first|(with_reducible first|apply X2|apply X8|apply Y2)|((with_reducible apply e_end);(simp;exact Red.rfl))|((with_reducible apply O1);rfl;(simp (disch:=omega);exact Red.rfl);exact Red.rfl;(focus (first|(simp;done)|omega|(simp;omega)))))
            exact q_again ⟨i + 1, by omega⟩ (by dsimp only; omega) (.inl rfl)
          · (with_reducible apply e_call); (simp; exact Red.rfl); exact cst _ false (by simp [hsr, hside])
            rintro _ _ ⟨rfl, rfl⟩
            repeat (first|((with_reducible apply O1);rfl;(simp (disch:=omega);exact Red.rfl);exact Red.rfl;(focus (first|(simp;done)|omega|(simp;omega))))|((with_reducible apply Z7);(simp (disch:=omega);exact Red.rfl)))
            refine e_op (op := .mapGet _ _ _ _ _) rfl (den_getV (k := i) (w := wiF (hd t s l)) rfl rfl (by rw [at_new]; rfl) (le_mem hlt)) Red.rfl trivial ?_
            repeat ((with_reducible apply Z7);(simp (disch:=omega);exact Red.rfl))
            (with_reducible apply e_call); (simp; exact Red.rfl); exact cth hside _ (by rw [rd_old _ hid]; exact hs) _ cb
            rintro _ _ ⟨rfl, rfl⟩
            by_cases hw : a9 < htF (wiF (hd t s l) i) (dn t a6 a7) (up t s.t1 s.t2)
            · have hT : thrB t s l i = true := by rw [hthr]; simp [hside, hw]
              rw [← le_keepT hT]
              repeat (first|(with_reducible first|apply X2|apply X5|apply X8|apply Y2)|((with_reducible apply e_end);(simp;exact Red.rfl))|((with_reducible apply O1);rfl;(simp (disch:=omega) [hw];exact Red.rfl);exact Red.rfl;(focus (first|(simp;done)|omega|(simp;omega))))|((with_reducible apply Z7);(simp (disch:=omega) [hw];exact Red.rfl))|((with_reducible apply W3);(simp (disch:=omega) [hw];exact Red.rfl)))
              exact q_again ⟨i + 1, by omega⟩ (by dsimp only; omega) (.inl rfl)
            · have hf : thrB t s l i = false := by rw [hthr]; simp [hw]
              repeat (first|(with_reducible first|apply X2|apply X8)|((with_reducible apply e_end);(simp;exact Red.rfl))|((with_reducible apply O1);rfl;(simp (disch:=omega) [hw];exact Red.rfl);exact Red.rfl;(focus (first|(simp;done)|omega|(simp;omega))))|((with_reducible first|apply Z7|apply Z9);(simp (disch:=omega) [hw];exact Red.rfl)))
              refine e_do (op := .mapDel _ _ _) rfl (den_delV (k := i) (w := wiF (hd t s l)) rfl rfl (by rw [at_new]; rfl) (le_mem hlt) (le_nd _ _ _)) Red.rfl trivial ?_
              rw [set_new, le_dropF hf]
              repeat (first|(with_reducible first|apply X2|apply X8|apply Y2)|((with_reducible apply e_end);(simp;exact Red.rfl))|((with_reducible apply O1);rfl;(simp (disch:=omega);exact Red.rfl);exact Red.rfl;(focus (first|(simp;done)|omega|(simp;omega)))))
              exact q_again ⟨i + 1, by omega⟩ (by dsimp only; omega) (.inl rfl)
        · obtain rfl : i = l.length := by omega
          repeat (first|(with_reducible first|apply X1|apply X2|apply X4|apply X8|apply Y1|apply Y4|apply Y6)|((with_reducible apply e_end);(simp;exact Red.rfl))|((with_reducible apply O1);rfl;(simp (disch:=omega);exact Red.rfl);exact Red.rfl;(focus (first|(simp;done)|omega|(simp;omega))))|((with_reducible apply W3);(simp (disch:=omega);exact Red.rfl)))
          rw [le_end]
          (with_reducible apply e_call); (simp; exact Red.rfl); exact c_Keys _ (H.length + 1) (by simp)
          rintro _ _ ⟨rfl, rfl⟩
          have hX : (List.range l.length).filter (thrB t s l) = thL t s l := rfl
          rw [hX]
          have nd : (thL t s l).Nodup := List.Pairwise.filter _ List.nodup_range
          have hln : (thL t s l).length ≤ l.length := by
            have := List.length_filter_le (thrB t s l) (List.range l.length)
            simpa [thL] using this
          have inc : ∀ i j, i < j → j < (thL t s l).length → thK t s l i < thK t s l j := by
            intro i j hij hj
            have hp : (thL t s l).Pairwise (· < ·) := List.Pairwise.filter _ List.pairwise_lt_range
            have := List.pairwise_iff_getElem.1 hp i j (by omega) hj hij
            simp only [thK, List.getD_eq_getElem?_getD, List.getElem?_eq_getElem hj, List.getElem?_eq_getElem (show i < (thL t s l).length by omega), Option.getD_some]
            omega
          have KM : KeyMap (H ++ [.cells [.int .u8 s.c, .int .i64 s.s1, .int .i64 s.s2, .int .i64 s.r1, .int .i64 s.r2, .int .i64 s.d1, .int .i64 s.d2, .int .i64 s.w1, .int .i64 s.w2, .int .i64 s.t1, .int .i64 s.t2, .slice id off l.length 9 ex, .fn (.func (moF t)) [] [], .fn (.func (leF t)) [] []] true, moX (wiF (hd t s l)) (thL t s l) l.length, .cells (avR (r1 (wiF (hd t s l))) l.length) true, .cells [.map (H.length + 1)] true]) (H.length + 1) (mpV (wiF (hd t s l)) (thL t s l)) (thL t s l) l.length (thL t s l).length (thK t s l) :=
            ⟨by rw [at_new]; rfl, by simp [mpV], rfl, nd, fun b hb => List.mem_range.1 (List.mem_filter.1 hb).1, fun p hp => ⟨_, by
              rw [mpV_get _ (List.getElem?_eq_getElem hp)]
              simp only [thK, List.getD_eq_getElem?_getD, List.getElem?_eq_getElem hp, Option.getD_some]
              rfl⟩⟩
          have csd := c_Sorted _ (H.length + 3) (H.length + 1) l.length _ _ _ _ KM (by simp) (by omega) inc
          simp only [List.append_assoc, List.cons_append, List.nil_append, List.length_append, List.length_cons, List.length_nil, Nat.zero_add, Nat.reduceAdd]
          (with_reducible apply e_call); (simp; exact Red.rfl); exact csd
          rintro _ _ ⟨rfl, rfl⟩
          have pl := (plain_r1 (thK t s l)).plain (thL t s l).length
          generalize (thL t s l).length = m at pl ⊢
          unfold lV lO
          by_cases h0 : m = 0
          · simp only [if_pos h0, List.append_nil]
            repeat (first|(with_reducible first|apply X3|apply X8)|((with_reducible apply e_end);(simp;exact Red.rfl))|((with_reducible apply O1);rfl;(simp (disch:=omega);exact Red.rfl);exact Red.rfl;(focus (first|(simp;done)|omega|(simp;omega)))))
            exact q_post (v' := .nilslice) (.inr rfl) (by simp; exact Red.rfl) (le_drop (by simp)) ⟨rfl, rfl⟩
          · simp only [if_neg h0]
            repeat (first|(with_reducible first|apply X3|apply X8)|((with_reducible apply e_end);(simp;exact Red.rfl))|((with_reducible apply O1);rfl;(simp (disch:=omega);exact Red.rfl);exact Red.rfl;(focus (first|(simp;done)|omega|(simp;omega)))))
            exact q_post (v' := .slice H.length 0 m 1 false) (.inr rfl) (by simp; exact Red.rfl) (le_plain [4] _ (by simp) rfl (by simp; exact pl.o _) (by simp [sh, AV.ren])) ⟨rfl, rfl⟩
def thN (t : Bool) (s : Sl) (l : List Str) : Nat := (thL t s l).length
theorem thN_zero {t : Bool} {s : Sl} {l : List Str} : thN t s l = 0 ↔ ∀ i, i < l.length → thrB t s l i = false := by
  unfold thN thL
  rw [List.length_eq_zero_iff, List.filter_eq_nil_iff]
  constructor
  · intro h i hi; have := h i (List.mem_range.2 hi); simpa using this
  · intro h i hi; have := h i (List.mem_range.1 hi); simp [this]
def thC (t : Bool) (s : Sl) (l : List Str) : Nat := (thL t s l).getD 0 0
theorem thC_is {t : Bool} {s : Sl} {l : List Str} (h : thN t s l ≠ 0) : thC t s l < l.length ∧ thrB t s l (thC t s l) = true ∧ ∀ j, j < thC t s l → thrB t s l j = false := by
  unfold thN at h
  have hpos : 0 < (thL t s l).length := by omega
  have e : thC t s l = (thL t s l)[0] := by unfold thC; rw [List.getD_eq_getElem?_getD, List.getElem?_eq_getElem hpos]; rfl
  have hm : thC t s l ∈ thL t s l := by rw [e]; exact List.getElem_mem _
  obtain ⟨h1, h2⟩ := List.mem_filter.1 hm
  refine ⟨List.mem_range.1 h1, h2, fun j hj => ?_⟩
  cases hb : thrB t s l j with
  | false => rfl
  | true =>
    exfalso
    have hjm : j ∈ thL t s l := List.mem_filter.2 ⟨List.mem_range.2 (by have := List.mem_range.1 h1; omega), hb⟩
    obtain ⟨p, hp, hpe⟩ := List.mem_iff_getElem.1 hjm
    have hpw : (thL t s l).Pairwise (· < ·) := List.Pairwise.filter _ List.pairwise_lt_range
    rcases Nat.eq_zero_or_pos p with h0 | h0
    · subst h0; rw [← e] at hpe; omega
    · have := List.pairwise_iff_getElem.1 hpw 0 p hpos hp h0
      rw [← e, hpe] at this; omega

theorem c_safe (H : Heap) (s : Sl) (l : List Str) (id off : Nat) (ex : Bool) (hs : rd H id off (l.length * 9) = some (l.flatMap Str.av)) (hv : validL l) (hk : s.ok) :
    ACalls Tryz.prog F.slide_slider_safe [.agg (s.av ++ [.slice id off l.length 9 ex])] H (fun v h' => v = .bool (decide (thN true s l = 0)) ∧ h' = H) := by
  have hid := rd_lt hs
  have cf := fun H' h => c_fastest H' s id off l.length ex h
  have ct := fun H' h => c_throwing true H' s l id off ex h hv hk
  have hN : (thL true s l).length = thN true s l := rfl
  simp only [trv, Sl.av, List.cons_append, List.nil_append] at cf ct ⊢
  refine acalls_of ok_slide_slider_safe rfl fun hcl => ?_
  unfold ac_slide_slider_safe
  simp only [argsT, Nat.zero_add, Nat.reduceAdd]
  repeat (first|(with_reducible first|apply X1|apply X2|apply X8)|((with_reducible apply e_end);(simp;exact Red.rfl))|((with_reducible apply O1);rfl;(simp (disch:=omega);exact Red.rfl);exact Red.rfl;(focus (first|(simp;done)|omega|(simp;omega)))))
  (with_reducible apply e_call); (simp; exact Red.rfl); exact cf _ (by simp; omega)
  rintro _ _ ⟨rfl, rfl⟩
  skip
  (with_reducible apply e_call); (simp; exact Red.rfl); exact ct _ (by rw [rd_old _ hid]; exact hs)
  rintro _ _ ⟨rfl, rfl⟩
  rw [hN]
  unfold lV lO
  by_cases h0 : thN true s l = 0
  · simp only [if_pos h0, List.append_nil]
    repeat (first|(with_reducible first|apply X3|apply X8)|((with_reducible apply e_end);(simp;exact Red.rfl))|((with_reducible apply O1);rfl;(simp (disch:=omega);exact Red.rfl);exact Red.rfl;(focus (first|(simp;done)|omega|(simp;omega)))))
    refine q_drop (.inr rfl) (by simp; exact Red.rfl) (by simp) ⟨by simp [h0], rfl⟩
  · simp only [if_neg h0]
    have h1 : ¬ ((thN true s l : Nat) : Int) = 0 := by omega
    repeat (first|(with_reducible first|apply X3|apply X8)|((with_reducible apply e_end);(simp;exact Red.rfl))|((with_reducible apply O1);rfl;(simp (disch:=omega) [h0, h1];exact Red.rfl);exact Red.rfl;(focus (first|(simp;done)|omega|(simp;omega)))))
    refine q_drop (.inr rfl) (by simp; exact Red.rfl) (by simp) ⟨by simp [h0], rfl⟩

def knF (s : Sl) (l : List Str) : Int := if thN true s l = 0 then 2 else if thN false s l = 0 then 1 else 0
theorem c_Safe (H : Heap) (l : List Str) (id off : Nat) (ex : Bool) (s : Sl) (hs : rd H id off (l.length * 9) = some (l.flatMap Str.av)) (hv : validL l) (hk : s.ok) :
    ACalls Tryz.prog F.slide_Safe [.agg [.slice id off l.length 9 ex], .agg s.av] H (fun v h' => v = .tuple [.int .u8 (knF s l), .int .i64 0] ∧ h' = H) := by
  have hid := rd_lt hs
  have h12 := hv.1
  have ck := fun H' h1 xid h2 => c_checkOne H' l id off ex s xid 0 true h1 hv hk h2
  have csf := fun H' h => c_safe H' s l id off ex h hv hk
  have cs := fun H' h => c_slowest H' s id off l.length ex h
  have ct := fun H' h => c_throwing false H' s l id off ex h hv hk
  have hN : (thL false s l).length = thN false s l := rfl
  unfold knF
  simp only [trv, Sl.av, List.cons_append, List.nil_append] at ck csf cs ct ⊢
  refine acalls_of ok_slide_Safe rfl fun hcl => ?_
  unfold ac_slide_Safe
  simp only [argsT, Nat.zero_add, Nat.reduceAdd]
  repeat (first|(with_reducible first|apply X1|apply X2|apply X8)|((with_reducible apply e_end);(simp;exact Red.rfl))|((with_reducible apply O1);rfl;(simp (disch:=omega);exact Red.rfl);exact Red.rfl;(focus (first|(simp;done)|omega|(simp;omega)))))
  (with_reducible apply e_call); (simp; exact Red.rfl); exact ck _ (by rw [rd_old _ hid]; exact hs) _ (by simp)
  rintro _ _ ⟨rfl, rfl⟩
  repeat (first|(with_reducible first|apply X1|apply X2|apply X5|apply X6|apply X8)|((with_reducible apply e_end);(simp;exact Red.rfl))|((first|((with_reducible apply O1);rfl)|((with_reducible apply O2);rfl));(simp (disch:=omega);exact Red.rfl);exact Red.rfl;(focus (first|(simp;done)|omega|(simp;omega))))|((with_reducible apply W3);(simp (disch:=omega);exact Red.rfl)))
  (with_reducible apply e_call); (simp; exact Red.rfl); exact csf _ (by rw [rd_old _ hid]; exact hs)
  rintro _ _ ⟨rfl, rfl⟩
  by_cases h0 : thN true s l = 0
  · repeat (first|(with_reducible first|apply X1|apply X2|apply X3|apply X8|apply X9|apply Y3)|((with_reducible apply e_end);(simp;exact Red.rfl))|((with_reducible apply O1);rfl;(simp (disch:=omega) [h0];exact Red.rfl);exact Red.rfl;(focus (first|(simp;done)|omega|(simp;omega))))|((with_reducible apply Z9);(simp (disch:=omega) [h0];exact Red.rfl)))
    refine q_drop (.inr rfl) (by simp; exact Red.rfl) (by simp) ⟨by simp [h0], rfl⟩
  · repeat (first|(with_reducible first|apply X1|apply X2|apply X8)|((with_reducible apply e_end);(simp;exact Red.rfl))|((with_reducible apply O1);rfl;(simp (disch:=omega) [h0];exact Red.rfl);exact Red.rfl;(focus (first|(simp;done)|omega|(simp;omega))))|((with_reducible apply W3);(simp (disch:=omega) [h0];exact Red.rfl)))
    (with_reducible apply e_call); (simp; exact Red.rfl); exact cs _ (by simp; omega)
    rintro _ _ ⟨rfl, rfl⟩
    skip
    (with_reducible apply e_call); (simp; exact Red.rfl); exact ct _ (by simp only [List.append_assoc, rd_old _ hid]; exact hs)
    rintro _ _ ⟨rfl, rfl⟩
    rw [hN]
    unfold lV lO
    by_cases h1 : thN false s l = 0
    · simp only [if_pos h1, List.append_nil]
      repeat (first|(with_reducible first|apply X1|apply X2|apply X3|apply X5|apply X8|apply Y2)|((with_reducible apply e_end);(simp;exact Red.rfl))|((with_reducible apply O1);rfl;(simp (disch:=omega);exact Red.rfl);exact Red.rfl;(focus (first|(simp;done)|omega|(simp;omega))))|((with_reducible apply W3);(simp (disch:=omega);exact Red.rfl)))
      refine q_drop (.inr rfl) (by simp; exact Red.rfl) (by simp) ⟨by simp [h0, h1], rfl⟩
    · simp only [if_neg h1]
      have h2 : 0 < ((thN false s l : Nat) : Int) := by omega
      have h3 : 0 < thN false s l := by omega
      repeat (first|(with_reducible first|apply X1|apply X2|apply X3|apply X8|apply X9|apply Y3)|((with_reducible apply e_end);(simp;exact Red.rfl))|((with_reducible apply O1);rfl;(simp (disch:=omega) [h2, h3];exact Red.rfl);exact Red.rfl;(focus (first|(simp;done)|omega|(simp;omega))))|((with_reducible apply Z9);(simp (disch:=omega) [h2, h3];exact Red.rfl)))
      refine q_drop (.inr rfl) (by simp; exact Red.rfl) (by simp) ⟨by simp [h0, h1], rfl⟩

def leastF (p : Int → Bool) : Nat → Nat
  | 0 => 0
  | n + 1 => if p (leastF p n) = true then leastF p n else if leastF p n = n then n + 1 else leastF p n
def thrP (t : Bool) (s : Sl) (l : List Str) (i : Nat) (x : Int) : Bool := decide ((strAt l i).wall < htF x (dn t (strAt l i).rLo (strAt l i).rHi) (up t s.t1 s.t2))
def nmR (s : Sl) (l : List Str) : Int := leastF (thrP true s l (thC true s l)) (wiF (hd true s l) (thC true s l)).toNat

end Go.Proofs
