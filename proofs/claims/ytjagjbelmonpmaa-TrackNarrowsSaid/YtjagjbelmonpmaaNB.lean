/- Several texts as one. -/
import Derived.Test.YtjagjbelmonpmaaNA
import Derived.Test.YtjagjbelmonpmaaGG
import Derived.Test.YtjagjbelmonpmaaEX
import Derived.Test.YtjagjbelmonpmaaGH
/- A list of measures without one. -/
namespace Go.Proofs
open Go.Abs
attribute [local simp] AOp.den AOpd.ev lk cellsOf rd_new rd_new0 rd_zero rd_succ wr_new wr_new0 wr_zero wr_succ splice fillA binA scal sliceCells List.length_append argsT AV.sc scL AObj.sc resV getAll AR.get AOp.slots opdSlots opdsSlots partSlots eqAt at_new0 at_new set_new0 set_new wrap64
set_option linter.unusedSimpArgs false
set_option linter.unusedVariables false
def mpA (w : Nat → AV) (xs : List Nat) : List (AV × AV) := xs.map fun (j : Nat) => (.int .i64 (j : Int), w j)
def moA (w : Nat → AV) (xs : List Nat) (c : Nat) : AObj := .other (.map (mpA w xs) xs c)
theorem keyEq_nat (a b : Nat) : keyEq (.one .int) (.int .i64 (a : Int)) (.int .i64 (b : Int)) = some (decide (a = b)) := by
  have e : ((a : Int) = b) = (a = b) := propext Int.ofNat_inj
  simp only [keyEq, eqCell, if_true, e]
theorem findA__not (w : Nat → AV) (k : Nat) : ∀ xs : List Nat, ¬ k ∈ xs → findA (.one .int) (.int .i64 (k : Int)) (mpA w xs) = some none
  | [], _ => rfl
  | a :: r, h => by
    have h1 : ¬ k = a := fun e => h (by simp [e])
    have h2 := findA__not w k r (fun e => h (List.mem_cons_of_mem _ e))
    have e : mpA w (a :: r) = (.int .i64 (a : Int), w a) :: mpA w r := rfl
    rw [e]
    simp only [findA, keyEq_nat, h1, decide_false, h2]
theorem findA__mem (w : Nat → AV) (k : Nat) : ∀ xs : List Nat, k ∈ xs → ∃ p : Nat, xs[p]? = some k ∧ findA (.one .int) (.int .i64 (k : Int)) (mpA w xs) = some (some p)
  | [], h => by cases h
  | a :: r, h => by
    have e : mpA w (a :: r) = (.int .i64 (a : Int), w a) :: mpA w r := rfl
    by_cases h1 : k = a
    · subst h1
      exact ⟨0, rfl, by rw [e]; simp only [findA, keyEq_nat, decide_true]⟩
    · have h2 : k ∈ r := by
        rcases List.mem_cons.1 h with h | h
        · exact absurd h h1
        · exact h
      obtain ⟨p, q1, q2⟩ := findA__mem w k r h2
      exact ⟨p + 1, by simpa using q1, by rw [e]; simp only [findA, keyEq_nat, h1, decide_false, q2]⟩
theorem mpA_get (w : Nat → AV) {xs : List Nat} {p k : Nat} (h : xs[p]? = some k) : (mpA w xs)[p]? = some (.int .i64 (k : Int), w k) := by
  simp [mpA, h]
theorem erase_map {α β : Type} (f : α → β) : ∀ (xs : List α) (p : Nat), (xs.map f).eraseIdx p = (xs.eraseIdx p).map f
  | [], _ => rfl
  | _ :: _, 0 => rfl
  | a :: xs, p + 1 => by simp only [List.map_cons, List.eraseIdx_cons_succ, erase_map f xs p]
theorem erase_nd {k : Nat} : ∀ {xs : List Nat} {p : Nat}, xs.Nodup → xs[p]? = some k → xs.eraseIdx p = xs.filter fun j => decide (j ≠ k)
  | [], p, _, h => by simp at h
  | a :: r, 0, hd, h => by
    simp at h; subst h
    have h1 := List.nodup_cons.1 hd
    rw [List.eraseIdx_cons_zero, List.filter_cons_of_neg (by simp)]
    exact (List.filter_eq_self.2 fun x hx => by
      have : x ≠ a := by rintro rfl; exact h1.1 hx
      simpa using this).symm
  | a :: r, p + 1, hd, h => by
    have h1 := List.nodup_cons.1 hd
    have hk : k ∈ r := List.mem_of_getElem? (by simpa using h)
    have hne : a ≠ k := by rintro rfl; exact h1.1 hk
    rw [List.eraseIdx_cons_succ, List.filter_cons_of_pos (by simpa using hne), erase_nd h1.2 (by simpa using h)]
theorem den_getA {z : AV} {m i : AOpd} {ev : AOpd → AV} {h : Heap} {id k c : Nat} {w : Nat → AV} {xs : List Nat} (hm : ev m = .map id) (hi : ev i = .int .i64 (k : Int)) (hh : h[id]? = some (moA w xs c)) (hk : k ∈ xs) :
    (AOp.mapGet false z (.one .int) m i).den ev h = .ok True (w k) h := by
  obtain ⟨p, q1, q2⟩ := findA__mem w k xs hk
  simp only [AOp.den, AOp.fx, hm, hi, keyEq_nat, mapAt, hh, moA, Option.isSome_some, if_true, q2, mpA_get w q1]
  simp
theorem den_putA {m i x : AOpd} {ev : AOpd → AV} {h : Heap} {id k c : Nat} {w : Nat → AV} {xs : List Nat} (hm : ev m = .map id) (hi : ev i = .int .i64 (k : Int)) (hx : ev x = w k) (hh : h[id]? = some (moA w xs c)) (hk : ¬ k ∈ xs) (hc : c = k) :
    (AOp.mapPut (.one .int) m i x).den ev h = .ok True (.tuple []) (h.set id (moA w (xs ++ [k]) (c + 1))) := by
  simp only [AOp.den, AOp.fx, hm, hi, hx, keyEq_nat, hh, moA, Option.isSome_some, if_true, findA__not w k xs hk]
  simp [mpA, hc]
theorem den_delA {m i : AOpd} {ev : AOpd → AV} {h : Heap} {id k c : Nat} {w : Nat → AV} {xs : List Nat} (hm : ev m = .map id) (hi : ev i = .int .i64 (k : Int)) (hh : h[id]? = some (moA w xs c)) (hk : k ∈ xs) (hd : xs.Nodup) :
    (AOp.mapDel (.one .int) m i).den ev h = .ok True (.tuple []) (h.set id (moA w (xs.filter fun j => decide (j ≠ k)) c)) := by
  obtain ⟨p, q1, q2⟩ := findA__mem w k xs hk
  have e : (mpA w xs).eraseIdx p = mpA w (xs.filter fun j => decide (j ≠ k)) := by
    rw [← erase_nd hd q1]; simp only [mpA, erase_map]
  simp only [AOp.den, AOp.fx, hm, hi, keyEq_nat, hh, moA, Option.isSome_some, if_true, q2, e, erase_nd hd q1]
theorem moA_sc {m : Nat} {w : Nat → AV} {xs : List Nat} {c : Nat} (h : ∀ j ∈ xs, (w j).sc m = true) : (moA w xs c).sc m = true := by
  simp only [moA, AObj.sc, OObj.sc, mpA, List.all_map, List.all_eq_true]
  intro j hj
  simp [AV.sc, h j hj]

/-- The measure that stands at a place. -/
def msA (ms : List Ms) (j : Nat) : AV := .agg ((ms[j]?.getD ⟨0, 0, 0, 0, 0⟩).av)
def xsN (n i : Nat) : List Nat := (List.range n).eraseIdx i
def xsK (n i p : Nat) : Int := ((xsN n i).getD p 0 : Nat)
theorem xsN_eq {n i : Nat} (hi : i < n) : (List.range n).filter (fun j => decide (j ≠ i)) = xsN n i := (erase_nd List.nodup_range (by simp [hi])).symm
theorem xsN_len {n i : Nat} (hi : i < n) : (xsN n i).length = n - 1 := by simp [xsN, List.length_eraseIdx, hi]
theorem xsN_nd (n i : Nat) : (xsN n i).Nodup := List.nodup_range.sublist (List.eraseIdx_sublist _ _)
theorem xsN_mem {n i j : Nat} (h : j ∈ xsN n i) : j < n := List.mem_range.1 (List.mem_of_mem_eraseIdx h)
theorem xsN_inc (n i : Nat) : ∀ a b, a < b → b < (xsN n i).length → xsK n i a < xsK n i b := by
  intro a b hab hb
  have hp : (xsN n i).Pairwise (· < ·) := List.Pairwise.sublist (List.eraseIdx_sublist _ _) List.pairwise_lt_range
  have := List.pairwise_iff_getElem.1 hp a b (by omega) hb hab
  simp only [xsK, List.getD_eq_getElem?_getD, List.getElem?_eq_getElem hb, List.getElem?_eq_getElem (show a < (xsN n i).length by omega), Option.getD_some]
  omega
theorem xsN_ms (ms : List Ms) (i : Nat) : (xsN ms.length i).map (fun j => ms[j]?.getD ⟨0, 0, 0, 0, 0⟩) = ms.eraseIdx i := by
  rw [xsN, ← erase_map]
  congr 1
  apply List.ext_getElem
  · simp
  · intro k h1 h2
    simp [List.getElem?_eq_getElem h2]
end Go.Proofs
/- A list of measures without one. -/
namespace Go.Proofs
open Go.Abs
attribute [local simp] AOp.den AOpd.ev lk cellsOf rd_new rd_new0 rd_zero rd_succ wr_new wr_new0 wr_zero wr_succ splice fillA binA scal sliceCells List.length_append argsT AV.sc scL AObj.sc resV getAll AR.get AOp.slots opdSlots opdsSlots partSlots eqAt at_new0 at_new set_new0 set_new wrap64
set_option linter.unusedSimpArgs false
set_option linter.unusedVariables false
theorem plainMs : ∀ l : List Ms, Plain (l.flatMap Ms.av)
  | [] => Plain.nil
  | x :: l => by
    have := plainMs l
    exact Plain.app (xs := x.av) ⟨rfl, fun _ => rfl, fun _ => rfl⟩ this
set_option maxHeartbeats 4000000 in
theorem c_without (H : Heap) (ms : List Ms) (mv : AV) (hm : SlM H mv ms) (hn : ms.length ≤ 12) (i : Nat) (hi : i < ms.length) :
    ACalls Try.prog F.track_without [mv, .int .i64 i] H (fun v h' => v = lsV H 5 (ms.eraseIdx i).length ∧ h' = H ++ lsO (ms.eraseIdx i).length ((ms.eraseIdx i).flatMap Ms.av)) := by
  obtain ⟨mid, moff, mex, rfl, hm2⟩ : ∃ id off ex, mv = .slice id off ms.length 5 ex ∧ rd H id off (ms.length * 5) = some (ms.flatMap Ms.av) := by
    rcases hm with ⟨_, rfl⟩ | h
    · simp at hi
    · exact h
  have hmd := rd_lt hm2
  have hsc : ∀ (m : Nat) (xs : List Nat) (c : Nat), (moA (msA ms) xs c).sc m = true := fun m xs c => moA_sc fun j _ => by simp [msA, Ms.av, AV.sc]
  refine acalls_of ok_track_without rfl fun hcl => ?_
  unfold ac_track_without
  simp only [argsT, Nat.zero_add, Nat.reduceAdd]
  repeat (first|(with_reducible first|apply X1|apply X2|apply X6|apply X8)|((with_reducible apply e_end);(simp;exact Red.rfl))|((with_reducible apply O1);rfl;(simp (disch:=omega);exact Red.rfl);exact Red.rfl;(focus (first|(simp;done)|omega|(simp;omega)))))
  refine e_loop (ι := { k : Nat // k ≤ ms.length })
    (fun k => [(1, .int .i64 i), (5, .map H.length), (12, .slice mid moff ms.length 5 mex), (13, .int .i64 ms.length), (14, .int .i64 k.1)])
    (fun k => H ++ [moA (msA ms) (List.range k.1) k.1]) (fun k => ms.length - k.1) ⟨0, by simp⟩ ?_ ?_
  · exact .inl rfl
  · rintro ⟨k, hk⟩
    dsimp only
    by_cases hlt : k < ms.length
    · have hlt2 : (k : Int) < ms.length := by omega
      have hx := rd_row Ms.av_length hm2 hlt
      have hw : msA ms k = .agg (ms[k]).av := by simp [msA, List.getElem?_eq_getElem hlt]
      generalize ms[k] = x at hx hw
      obtain ⟨a1, a2, a3, a4, a5⟩ := x
      simp only [Ms.av] at hx hw
      repeat (first|(with_reducible first|apply X1|apply X2|apply X5|apply X6|apply X8)|((with_reducible apply e_end);(simp;exact Red.rfl))|((first|((with_reducible apply O1);rfl)|((with_reducible apply O2);rfl));(simp (disch:=omega) [hlt, hlt2, rd_old _ hmd, hx];exact Red.rfl);exact Red.rfl;(focus (first|(simp;done)|omega|(simp;omega))))|((with_reducible apply Z9);(simp (disch:=omega) [hlt, hlt2, rd_old _ hmd, hx];exact Red.rfl)))
      refine e_do (op := .mapPut _ _ _ _) rfl (den_putA (k := k) (w := msA ms) (xs := List.range k) (c := k) rfl rfl (by rw [hw]; rfl) (by rw [at_new0]; rfl) (by simp) rfl) Red.rfl trivial ?_
      rw [set_new0, ← List.range_succ]
      repeat (first|(with_reducible first|apply X2|apply X8|apply Y2)|((with_reducible apply e_end);(simp;exact Red.rfl))|((with_reducible apply O1);rfl;(simp (disch:=omega);exact Red.rfl);exact Red.rfl;(focus (first|(simp;done)|omega|(simp;omega)))))
      refine q_again ⟨k + 1, by omega⟩ (by dsimp only; omega) (.inr ?_)
      exact le_take (G := [_]) (G2 := [_]) (by intro o ho; simp only [List.mem_singleton] at ho; subst ho; exact hsc _ _ _) (by simp [Red, AV.sc] <;> omega)
    · obtain rfl : k = ms.length := by omega
      clear hlt hk
      repeat (first|(with_reducible first|apply X1|apply X2|apply X4|apply X8|apply Y1|apply Y4|apply Y6)|((with_reducible apply e_end);(simp;exact Red.rfl))|((with_reducible apply O1);rfl;(simp (disch:=omega);exact Red.rfl);exact Red.rfl;(focus (first|(simp;done)|omega|(simp;omega))))|((with_reducible apply W3);(simp (disch:=omega);exact Red.rfl)))
      refine e_do (op := .mapDel _ _ _) rfl (den_delA (k := i) (w := msA ms) rfl rfl (by rw [at_new0]; rfl) (List.mem_range.2 hi) List.nodup_range) Red.rfl trivial ?_
      rw [set_new0, xsN_eq hi]
      have hxl := xsN_len hi
      repeat (first|(with_reducible first|apply X1|apply X2|apply X8)|((with_reducible apply e_end);(simp;exact Red.rfl))|((with_reducible apply O1);rfl;(simp (disch:=omega);exact Red.rfl);exact Red.rfl;(focus (first|(simp;done)|omega|(simp;omega)))))
      (with_reducible apply e_call); (simp; exact Red.rfl); exact c_Keys _ H.length (by simp)
      rintro _ _ ⟨rfl, rfl⟩
      have KM : KeyMap (H ++ [moA (msA ms) (xsN ms.length i) ms.length, .cells [.map H.length] true]) H.length (mpA (msA ms) (xsN ms.length i)) (xsN ms.length i) ms.length (xsN ms.length i).length (xsK ms.length i) :=
        ⟨by rw [at_new0]; rfl, by simp [mpA], rfl, xsN_nd _ _, fun b hb => xsN_mem hb, fun p hp => ⟨_, by
          rw [mpA_get _ (List.getElem?_eq_getElem hp)]
          simp only [xsK, List.getD_eq_getElem?_getD, List.getElem?_eq_getElem hp, Option.getD_some]
          rfl⟩⟩
      have csd := c_Sorted _ (H.length + 1) H.length ms.length _ _ _ _ KM (by simp) (by omega) (xsN_inc _ _)
      simp only [List.append_assoc, List.cons_append, List.nil_append, List.length_append, List.length_cons, List.length_nil, Nat.zero_add, Nat.reduceAdd]
      (with_reducible apply e_call); (simp; exact Red.rfl); exact csd
      rintro _ _ ⟨rfl, rfl⟩
      have hel : (ms.eraseIdx i).length = (xsN ms.length i).length := by rw [← xsN_ms]; simp
      rw [hel]
      unfold lV lO
      by_cases h0 : (xsN ms.length i).length = 0
      · simp only [if_pos h0, List.append_nil, lsV, lsO]
        repeat (first|(with_reducible first|apply X6|apply X8)|((with_reducible apply e_end);(simp;exact Red.rfl))|((with_reducible apply O1);rfl;(simp (disch:=omega);exact Red.rfl);exact Red.rfl;(focus (first|(simp;done)|omega|(simp;omega)))))
        refine e_loop (ι := Unit) (fun _ => [(5, .map H.length), (8, .nilslice), (27, .nilslice), (28, .int .i64 0), (29, .int .i64 0)]) (fun _ => H ++ [moA (msA ms) (xsN ms.length i) ms.length, .cells [.map H.length] true]) (fun _ => 0) () (.inl rfl) ?_
        intro _
        repeat (first|(with_reducible first|apply X1|apply X2|apply X3|apply X4|apply X8|apply Y1|apply Y4|apply Y6)|((with_reducible apply e_end);(simp;exact Red.rfl))|((with_reducible apply O1);rfl;(simp (disch:=omega);exact Red.rfl);exact Red.rfl;(focus (first|(simp;done)|omega|(simp;omega))))|((with_reducible apply W3);(simp (disch:=omega);exact Red.rfl)))
        exact q_post (v' := .nilslice) (.inr rfl) (by simp; exact Red.rfl) (le_drop (by simp)) ⟨rfl, by simp⟩
      · simp only [if_neg h0]
        have hml : (xsN ms.length i).length < 1000000 := by omega
        have hxe := xsN_ms ms i
        have hxm : ∀ j ∈ xsN ms.length i, j ∈ xsN ms.length i := fun j h => h
        have hel2 : (ms.eraseIdx i).length ≤ 12 := by omega
        generalize ms.eraseIdx i = es at hel hxe hel2 ⊢
        generalize hxs : xsN ms.length i = xs at *
        have kl := (plain_r1 (xsK ms.length i)).length xs.length
        repeat (first|(with_reducible first|apply X6|apply X8)|((with_reducible apply e_end);(simp;exact Red.rfl))|((with_reducible apply O1);rfl;(simp (disch:=omega);exact Red.rfl);exact Red.rfl;(focus (first|(simp;done)|omega|(simp;omega)))))
        refine e_loop (ι := { p : Nat × AV × Heap // p.1 ≤ xs.length ∧ AAt (H ++ [moA (msA ms) xs ms.length, .cells [.map H.length] true, .cells (avR (r1 (xsK ms.length i)) xs.length) true] ++ p.2.2) 5 p.2.1 ((es.take p.1).flatMap Ms.av) p.1 ∧ ∀ k, isId p.2.1 k → H.length + 3 ≤ k })
          (fun p => [(5, .map H.length), (8, p.1.2.1), (27, .slice (H.length + 2) 0 xs.length 1 false), (28, .int .i64 xs.length), (29, .int .i64 p.1.1)])
          (fun p => H ++ [moA (msA ms) xs ms.length, .cells [.map H.length] true, .cells (avR (r1 (xsK ms.length i)) xs.length) true] ++ p.1.2.2) (fun p => xs.length - p.1.1) ⟨(0, .nilslice, []), by simp, AAt.nil _ _, fun k hk => by cases hk⟩ ?_ ?_
        · exact .inl (by simp)
        · rintro ⟨⟨p, v, G⟩, hp, hv, hvi⟩
          dsimp only at hp hv hvi ⊢
          by_cases hlt : p < xs.length
          · have hlt2 : (p : Int) < xs.length := by omega
            have le1 : p + 1 ≤ xs.length := hlt
            have hke : p < es.length := by omega
            have q1 : ((avR (r1 (xsK ms.length i)) xs.length).drop p).take 1 = [.int .i64 ((xs[p] : Nat) : Int)] := by
              have := (plain_r1 (xsK ms.length i)).part (n := xs.length) (i := p) (c := 0) (m := 1) hlt (by omega)
              simpa [r1, xsK, hxs, List.getD_eq_getElem?_getD, List.getElem?_eq_getElem hlt] using this
            have hw : msA ms xs[p] = .agg (es[p]).av := by
              simp only [msA, ← hxe, List.getElem_map]
            generalize hx : xs[p] = j at q1 hw
            have hj : j ∈ xs := hx ▸ List.getElem_mem hlt
            have htk : es.take (p + 1) = es.take p ++ [es[p]] := by rw [List.take_add_one, List.getElem?_eq_getElem hke]; rfl
            generalize es[p] = y at hw htk
            obtain ⟨a1, a2, a3, a4, a5⟩ := y
            simp only [Ms.av] at hw
            simp only [List.append_assoc, List.cons_append, List.nil_append]
            repeat (first|(with_reducible first|apply X1|apply X2|apply X5|apply X6|apply X8)|((with_reducible apply e_end);(simp;exact Red.rfl))|((with_reducible apply O1);rfl;(simp (disch:=omega) [hlt, hlt2, le1, q1, kl];exact Red.rfl);exact Red.rfl;(focus (first|(simp;done)|omega|(simp;omega))))|((with_reducible apply Z9);(simp (disch:=omega) [hlt, hlt2, le1, q1, kl];exact Red.rfl)))
            refine e_op (op := .mapGet _ _ _ _ _) rfl (den_getA (k := j) (w := msA ms) rfl rfl (by rw [at_new0]; rfl) hj) Red.rfl trivial ?_
            rw [hw]
            repeat ((with_reducible apply O1);rfl;(simp (disch:=omega);exact Red.rfl);exact Red.rfl;(focus (first|(simp;done)|omega|(simp;omega))))
            refine e_appA (A := H ++ [moA (msA ms) xs ms.length, .cells [.map H.length] true, .cells (avR (r1 (xsK ms.length i)) xs.length) true]) (G := G ++ [.cells [.int .u8 a1, .int .i64 a2, .int .i64 a3, .int .i64 a4, .int .i64 a5] true]) (cs := (es.take p).flatMap Ms.av) (n := p) (m := 1) (new := [.int .u8 a1, .int .i64 a2, .int .i64 a3, .int .i64 a4, .int .i64 a5]) (by simp) (by simp; exact Red.rfl) (by simp; exact Red.rfl) (by have := hv.app [.cells [.int .u8 a1, .int .i64 a2, .int .i64 a3, .int .i64 a4, .int .i64 a5] true]; simpa using this) (fun k hk => by have := hvi k hk; simp; omega) (by simp [Nat.add_assoc]) (by simp) (by omega) (by omega) ?_
            intro G2 v2 e3 e4 _ _ _
            simp only [List.append_assoc, List.cons_append, List.nil_append] at e3 e4 ⊢
            repeat (first|(with_reducible first|apply X2|apply X8|apply Y2)|((with_reducible apply e_end);(simp;exact Red.rfl))|((with_reducible apply O1);rfl;(simp (disch:=omega);exact Red.rfl);exact Red.rfl;(focus (first|(simp;done)|omega|(simp;omega)))))
            refine q_again ⟨(p + 1, v2, G2), by dsimp only; omega, ?_, ?_⟩ (by dsimp only; omega) (.inl (by simp))
            · simp only [htk, List.flatMap_append, List.flatMap_cons, List.flatMap_nil, List.append_nil, Ms.av]; simpa using e3
            · intro k hk; have := e4 k hk; simpa using this
          · obtain rfl : p = xs.length := by omega
            repeat (first|(with_reducible first|apply X1|apply X2|apply X3|apply X4|apply X8|apply Y1|apply Y4|apply Y6)|((with_reducible apply e_end);(simp;exact Red.rfl))|((with_reducible apply O1);rfl;(simp (disch:=omega);exact Red.rfl);exact Red.rfl;(focus (first|(simp;done)|omega|(simp;omega))))|((with_reducible apply W3);(simp (disch:=omega);exact Red.rfl)))
            have hT : es.take xs.length = es := by rw [← hel, List.take_length]
            rw [hT] at hv
            refine q_post (v' := lsV H 5 xs.length) (.inr rfl) (by simp; exact Red.rfl) (le_ls (G := moA (msA ms) xs ms.length :: .cells [.map H.length] true :: .cells (avR (r1 (xsK ms.length i)) xs.length) true :: G) (fun x => x) (fun _ _ => rfl) (fun _ _ h => h) (plainMs es) (by simpa using hv) (fun k hk => by have := hvi k hk; omega)) ⟨rfl, rfl⟩
end Go.Proofs
/- Tracks that are alike, or not. -/
namespace Go.Proofs
open Go.Abs
attribute [local simp] AOp.den AOpd.ev lk cellsOf rd_new rd_new0 rd_zero rd_succ wr_new wr_new0 wr_zero wr_succ splice fillA binA scal sliceCells List.length_append argsT AV.sc scL AObj.sc resV getAll AR.get AOp.slots opdSlots opdsSlots partSlots eqAt at_new0 at_new set_new0 set_new wrap64
set_option linter.unusedSimpArgs false
set_option linter.unusedVariables false
deriving instance DecidableEq for Str
def sameB (S S' : Nat → Str) (n : Nat) : Bool := decide (∀ j, j < n → S j = S' j)
theorem sameB_no {S S' : Nat → Str} {n i : Nat} (hi : i < n) (h : S i ≠ S' i) : sameB S S' n = false := decide_eq_false fun hh => h (hh i hi)
theorem sameB_yes {S S' : Nat → Str} {n : Nat} (h : ∀ j, j < n → S j = S' j) : sameB S S' n = true := decide_eq_true h
set_option maxHeartbeats 2000000 in
theorem c_SameG (H : Heap) (S S' : Nat → Str) (n ida idb offa offb : Nat) (exa exb : Bool) (ha : rd H ida offa (n * 9) = some (avR (fun j => (S j).av) n)) (hb : rd H idb offb (n * 9) = some (avR (fun j => (S' j).av) n)) (hn : n ≤ 1000) :
    ACalls Try.prog F.ref01_Same [.agg [.slice ida offa n 9 exa], .agg [.slice idb offb n 9 exb]] H (fun v h' => v = .bool (sameB S S' n) ∧ h' = H) := by
  refine acalls_of ok_ref01_Same rfl fun hcl => ?_
  unfold ac_ref01_Same
  simp only [argsT, Nat.zero_add, Nat.reduceAdd]
  have hia := rd_lt ha
  have hib := rd_lt hb
  repeat (first|(with_reducible first|apply X1|apply X2|apply X5|apply X6|apply X8)|((with_reducible apply e_end);(simp;exact Red.rfl))|((with_reducible apply O1);rfl;(simp (disch:=omega);exact Red.rfl);exact Red.rfl;(focus (first|(simp;done)|omega|(simp;omega))))|((with_reducible apply W3);(simp (disch:=omega);exact Red.rfl)))
  refine e_loop (ι := { i : Nat // i ≤ n ∧ ∀ j, j < i → S j = S' j })
    (fun i => [(2, .ptr H.length 0), (3, .ptr (H.length + 1) 0), (5, .int .i64 i.1)])
    (fun _ => H ++ [.cells [.slice ida offa n 9 exa] true, .cells [.slice idb offb n 9 exb] true]) (fun i => n - i.1) ⟨0, by omega, fun j hj => absurd hj (by omega)⟩ ?_ ?_
  · exact .inl rfl
  rintro ⟨i, hi, hd⟩
  dsimp only
  by_cases hlt : i < n
  · have hlt2 : (i : Int) < n := by omega
    have ra := rd_at ha hlt
    have rb := rd_at hb hlt
    rw [(plain_fun S).row hlt] at ra
    rw [(plain_fun S').row hlt] at rb
    by_cases he : S i = S' i
    · have hd2 : ∀ j, j < i + 1 → S j = S' j := fun j hj => by
        rcases Nat.lt_or_ge j i with h | h
        · exact hd j h
        · obtain rfl : j = i := by omega
          exact he
      rw [← he] at rb
      generalize S i = s at ra rb
      obtain ⟨a1, a2, a3, a4, a5, a6, a7, a8, a9⟩ := s
      simp only [Str.av] at ra rb
      repeat (first|(with_reducible first|apply X1|apply X2|apply X5|apply X6|apply X8|apply Y2|apply Y9)|((with_reducible first|apply e_end|apply d_end);(simp;exact Red.rfl))|((first|((with_reducible apply O1);rfl)|((with_reducible apply P1);rfl)|((with_reducible apply P2);rfl));(simp (disch:=omega) [hlt, hlt2, rd_old _ hia, rd_old _ hib, ra, rb];exact Red.rfl);exact Red.rfl;(focus (first|(simp;done)|omega|(simp;omega))))|((with_reducible apply Z9);(simp (disch:=omega) [hlt, hlt2, rd_old _ hia, rd_old _ hib, ra, rb];exact Red.rfl))|((with_reducible apply W3);(simp (disch:=omega) [hlt, hlt2, rd_old _ hia, rd_old _ hib, ra, rb];exact Red.rfl)))
      exact q_again ⟨i + 1, by omega, hd2⟩ (by dsimp only; omega) (.inl (by simp))
    · rw [sameB_no hlt he]
      generalize S i = s at ra he
      generalize S' i = s' at rb he
      obtain ⟨a1, a2, a3, a4, a5, a6, a7, a8, a9⟩ := s
      obtain ⟨b1, b2, b3, b4, b5, b6, b7, b8, b9⟩ := s'
      simp only [Str.av] at ra rb
      have hne : ¬ (a1 = b1 ∧ a2 = b2 ∧ a3 = b3 ∧ a4 = b4 ∧ a5 = b5 ∧ a6 = b6 ∧ a7 = b7 ∧ a8 = b8 ∧ a9 = b9) := by rintro ⟨rfl, rfl, rfl, rfl, rfl, rfl, rfl, rfl, rfl⟩; exact he rfl
      have hb : (!decide (a1 = b1) || (!decide (a2 = b2) || (!decide (a3 = b3) || (!decide (a4 = b4) || (!decide (a5 = b5) || (!decide (a6 = b6) || (!decide (a7 = b7) || (!decide (a8 = b8) || !decide (a9 = b9))))))))) = true := by
        refine eq_true_of_ne_false fun h => ?_
        simp only [Bool.or_eq_false_iff, Bool.not_eq_false', decide_eq_true_eq] at h
        exact hne h
      repeat (first|(with_reducible first|apply X1|apply X2|apply X3|apply X5|apply X6|apply X8|apply X9|apply Y3|apply Y5|apply Y9)|((with_reducible first|apply e_end|apply d_end);(simp;exact Red.rfl))|((first|((with_reducible apply O1);rfl)|((with_reducible apply P1);rfl)|((with_reducible apply P2);rfl));(simp (disch:=omega) [hlt, hlt2, rd_old _ hia, rd_old _ hib, ra, rb, hb];exact Red.rfl);exact Red.rfl;(focus (first|(simp;done)|omega|(simp;omega))))|((with_reducible apply Z9);(simp (disch:=omega) [hlt, hlt2, rd_old _ hia, rd_old _ hib, ra, rb, hb];exact Red.rfl)))
      refine q_drop (.inr rfl) (by simp; exact Red.rfl) (by simp) ⟨rfl, rfl⟩
  · have hlt2 : ¬ (i : Int) < n := by omega
    rw [sameB_yes fun j hj => hd j (by omega)]
    repeat (first|(with_reducible first|apply X1|apply X2|apply X3|apply X4|apply X8|apply Y1|apply Y4|apply Y6)|((with_reducible apply e_end);(simp;exact Red.rfl))|((with_reducible apply O1);rfl;(simp (disch:=omega) [hlt2];exact Red.rfl);exact Red.rfl;(focus (first|(simp;done)|omega|(simp;omega))))|((with_reducible apply W3);(simp (disch:=omega) [hlt2];exact Red.rfl)))
    refine q_drop (.inr rfl) (by simp; exact Red.rfl) (by simp) ⟨rfl, rfl⟩
set_option maxHeartbeats 2000000 in
theorem c_Equal (H : Heap) (S S' : Nat → Str) (n ida idb offa offb : Nat) (exa exb : Bool) (ha : rd H ida offa (n * 9) = some (avR (fun j => (S j).av) n)) (hb : rd H idb offb (n * 9) = some (avR (fun j => (S' j).av) n)) (hn : n ≤ 1000) :
    ACalls Try.prog F.slices_Equal_api_Stretch_api_Stretch [.slice ida offa n 9 exa, .slice idb offb n 9 exb] H (fun v h' => v = .bool (sameB S S' n) ∧ h' = H) := by
  refine acalls_of ok_slices_Equal_api_Stretch_api_Stretch rfl fun hcl => ?_
  unfold ac_slices_Equal_api_Stretch_api_Stretch
  simp only [argsT, Nat.zero_add, Nat.reduceAdd]
  have hia := rd_lt ha
  have hib := rd_lt hb
  repeat (first|(with_reducible first|apply X1|apply X2|apply X5|apply X6|apply X8)|((with_reducible apply e_end);(simp;exact Red.rfl))|((with_reducible apply O1);rfl;(simp (disch:=omega);exact Red.rfl);exact Red.rfl;(focus (first|(simp;done)|omega|(simp;omega))))|((with_reducible apply W3);(simp (disch:=omega);exact Red.rfl)))
  refine e_loop (ι := { i : Nat // i ≤ n ∧ ∀ j, j < i → S j = S' j })
    (fun i => [(0, .slice ida offa n 9 exa), (1, .slice idb offb n 9 exb), (12, .int .i64 n), (13, .int .i64 i.1)])
    (fun _ => H) (fun i => n - i.1) ⟨0, by omega, fun j hj => absurd hj (by omega)⟩ ?_ ?_
  · exact .inl rfl
  rintro ⟨i, hi, hd⟩
  dsimp only
  by_cases hlt : i < n
  · have hlt2 : (i : Int) < n := by omega
    have ra := rd_at ha hlt
    have rb := rd_at hb hlt
    rw [(plain_fun S).row hlt] at ra
    rw [(plain_fun S').row hlt] at rb
    by_cases he : S i = S' i
    · have hd2 : ∀ j, j < i + 1 → S j = S' j := fun j hj => by
        rcases Nat.lt_or_ge j i with h | h
        · exact hd j h
        · obtain rfl : j = i := by omega
          exact he
      rw [← he] at rb
      generalize S i = s at ra rb
      obtain ⟨a1, a2, a3, a4, a5, a6, a7, a8, a9⟩ := s
      simp only [Str.av] at ra rb
      repeat (first|(with_reducible first|apply X1|apply X2|apply X5|apply X6|apply X8|apply Y2|apply Y9)|((with_reducible first|apply e_end|apply d_end);(simp;exact Red.rfl))|((first|((with_reducible apply O1);rfl)|((with_reducible apply P1);rfl)|((with_reducible apply P2);rfl));(simp (disch:=omega) [hlt, hlt2, ra, rb];exact Red.rfl);exact Red.rfl;(focus (first|(simp;done)|omega|(simp;omega))))|((with_reducible apply Z9);(simp (disch:=omega) [hlt, hlt2, ra, rb];exact Red.rfl))|((with_reducible apply W3);(simp (disch:=omega) [hlt, hlt2, ra, rb];exact Red.rfl)))
      exact q_again ⟨i + 1, by omega, hd2⟩ (by dsimp only; omega) (.inl (by simp))
    · rw [sameB_no hlt he]
      generalize S i = s at ra he
      generalize S' i = s' at rb he
      obtain ⟨a1, a2, a3, a4, a5, a6, a7, a8, a9⟩ := s
      obtain ⟨b1, b2, b3, b4, b5, b6, b7, b8, b9⟩ := s'
      simp only [Str.av] at ra rb
      have hne : ¬ (a1 = b1 ∧ a2 = b2 ∧ a3 = b3 ∧ a4 = b4 ∧ a5 = b5 ∧ a6 = b6 ∧ a7 = b7 ∧ a8 = b8 ∧ a9 = b9) := by rintro ⟨rfl, rfl, rfl, rfl, rfl, rfl, rfl, rfl, rfl⟩; exact he rfl
      have hb : (!decide (a1 = b1) || (!decide (a2 = b2) || (!decide (a3 = b3) || (!decide (a4 = b4) || (!decide (a5 = b5) || (!decide (a6 = b6) || (!decide (a7 = b7) || (!decide (a8 = b8) || !decide (a9 = b9))))))))) = true := by
        refine eq_true_of_ne_false fun h => ?_
        simp only [Bool.or_eq_false_iff, Bool.not_eq_false', decide_eq_true_eq] at h
        exact hne h
      repeat (first|(with_reducible first|apply X1|apply X2|apply X3|apply X5|apply X6|apply X8|apply X9|apply Y3|apply Y5|apply Y9)|((with_reducible first|apply e_end|apply d_end);(simp;exact Red.rfl))|((first|((with_reducible apply O1);rfl)|((with_reducible apply P1);rfl)|((with_reducible apply P2);rfl));(simp (disch:=omega) [hlt, hlt2, ra, rb, hb];exact Red.rfl);exact Red.rfl;(focus (first|(simp;done)|omega|(simp;omega))))|((with_reducible apply Z9);(simp (disch:=omega) [hlt, hlt2, ra, rb, hb];exact Red.rfl)))
      refine q_stay (.inr rfl) (by simp; exact Red.rfl) ⟨rfl, rfl⟩
  · have hlt2 : ¬ (i : Int) < n := by omega
    rw [sameB_yes fun j hj => hd j (by omega)]
    repeat (first|(with_reducible first|apply X1|apply X2|apply X3|apply X4|apply X8|apply Y1|apply Y4|apply Y6)|((with_reducible apply e_end);(simp;exact Red.rfl))|((with_reducible apply O1);rfl;(simp (disch:=omega) [hlt2];exact Red.rfl);exact Red.rfl;(focus (first|(simp;done)|omega|(simp;omega))))|((with_reducible apply W3);(simp (disch:=omega) [hlt2];exact Red.rfl)))
    refine q_stay (.inr rfl) (by simp; exact Red.rfl) ⟨rfl, rfl⟩
end Go.Proofs
/- Measures that make no difference. -/
namespace Go.Proofs
open Go.Abs
attribute [local simp] AOp.den AOpd.ev lk cellsOf rd_new rd_new0 rd_zero rd_succ wr_new wr_new0 wr_zero wr_succ splice fillA binA scal sliceCells List.length_append argsT AV.sc scL AObj.sc resV getAll AR.get AOp.slots opdSlots opdsSlots partSlots eqAt at_new0 at_new set_new0 set_new wrap64
set_option linter.unusedSimpArgs false
set_option linter.unusedVariables false
theorem sat_sub {k : Kind} {l : List Str} {ms ms' : List Ms} (h : ∀ m ∈ ms', m ∈ ms) {x : Nat → Int} (hx : SatK k l ms x) : SatK k l ms' x := by
  refine ⟨hx.1, fun i hi => ?_⟩
  obtain ⟨j, hj, e⟩ := List.getElem_of_mem (h _ (List.getElem_mem hi))
  rw [← e]
  exact hx.2 j hj
theorem ok_sub {n : Nat} {ms ms' : List Ms} (h : ∀ m ∈ ms', m ∈ ms) (ok : ∀ i (h : i < ms.length), ms[i].ok n) : ∀ i (h : i < ms'.length), ms'[i].ok n := by
  intro i hi
  obtain ⟨j, hj, e⟩ := List.getElem_of_mem (h _ (List.getElem_mem hi))
  rw [← e]
  exact ok j hj
theorem good_sub {k : Kind} {l : List Str} {ms ms' : List Ms} (h : ∀ m ∈ ms', m ∈ ms) (ok : ∀ i (h : i < ms.length), ms[i].ok l.length) (hg : goodK k l ms) : goodK k l ms' :=
  good_of_satM (ok_sub h ok) (sat_sub h (row_sat ok hg (Nat.zero_le _)))
theorem few_mem (ms : List Ms) (i : Nat) : ∀ m ∈ ms.eraseIdx i, m ∈ ms := fun _ h => List.mem_of_mem_eraseIdx h
theorem few_len {ms : List Ms} {i : Nat} (hi : i < ms.length) : (ms.eraseIdx i).length = ms.length - 1 := by simp [List.length_eraseIdx, hi]
def useB (l : List Str) (ms : List Ms) (i : Nat) : Bool := sameB (lefS l (ms.eraseIdx i)) (lefS l ms) l.length
theorem c_NarrowX (H : Heap) (l : List Str) (id off : Nat) (ex : Bool) (ms : List Ms) (mv : AV) (hs : rd H id off (l.length * 9) = some (l.flatMap Str.av)) (hv : validL l) (hm : SlM H mv ms) (hok : okMs l.length ms) (hL : goodK kLong l ms) (hF : goodK kFall l ms) :
    ACalls Try.prog F.track_Narrow [.agg [.slice id off l.length 9 ex], mv] H (fun v h' => v = .tuple [.agg [.slice H.length 0 l.length 9 false], .int .i64 0] ∧ h' = H ++ [.cells (avR (fun j => (lefS l ms j).av) l.length) true]) :=
  (c_NarrowD H l id off ex ms mv hs hv hm (by have := hok.1; omega) hok).mono fun _ _ h => by
    rcases h with ⟨_, h2, h3⟩ | ⟨h1, _⟩
    · exact ⟨h2, h3⟩
    · exact absurd ⟨hL, hF⟩ h1
end Go.Proofs
/- Which measures make no difference. -/
namespace Go.Proofs
open Go.Abs
attribute [local simp] AOp.den AOpd.ev lk cellsOf rd_new rd_new0 rd_zero rd_succ wr_new wr_new0 wr_zero wr_succ splice fillA binA scal sliceCells List.length_append argsT AV.sc scL AObj.sc resV getAll AR.get AOp.slots opdSlots opdsSlots partSlots eqAt at_new0 at_new set_new0 set_new wrap64
set_option linter.unusedSimpArgs false
set_option linter.unusedVariables false
theorem ms_lenU (ms : List Ms) : (ms.flatMap Ms.av).length = ms.length * 5 := by
  induction ms with
  | nil => rfl
  | cons m r ih => rw [List.flatMap_cons, List.length_append, ih, Ms.av_length, List.length_cons]; omega
set_option maxHeartbeats 4000000 in
theorem c_Useless1 (H : Heap) (l : List Str) (ms : List Ms) (mv : AV) (id off lid tp mp ap i : Nat) (ex own : Bool) (hs : rd H id off (l.length * 9) = some (l.flatMap Str.av)) (hv : validL l) (hm : SlM H mv ms) (hok : okMs l.length ms) (hL : goodK kLong l ms) (hF : goodK kFall l ms)
    (ht : rd H tp 0 1 = some [.slice id off l.length 9 ex]) (hp : rd H mp 0 1 = some [mv]) (ha : rd H ap 0 1 = some [.slice lid 0 l.length 9 false]) (hl : H[lid]? = some (.cells (avR (fun j => (lefS l ms j).av) l.length) own)) (hi : i < ms.length) :
    ACalls Try.prog F.track_Useless_1 [.int .i64 i, .agg (ms[i]).av, .ptr tp 0, .ptr mp 0, .ptr ap 0] H (fun v h' => v = .bool (useB l ms i) ∧ h' = H) := by
  have hid := rd_lt hs
  have htp := rd_lt ht
  have hmp := rd_lt hp
  have hap := rd_lt ha
  have hli := (List.getElem?_eq_some_iff.1 hl).1
  have h12 := hv.1
  have hms := hok.1
  have cw := fun G => c_without (H ++ G) ms mv (hm.app G) hms i hi
  have few := ok_sub (few_mem ms i) hok.2
  have fL := good_sub (few_mem ms i) hok.2 hL
  have fF := good_sub (few_mem ms i) hok.2 hF
  have fln := few_len hi
  have cn := fun G mv' hm' => c_NarrowX (H ++ G) l id off ex (ms.eraseIdx i) mv' (by rw [rd_old _ hid]; exact hs) hv hm' ⟨by omega, few⟩ fL fF
  have hmsc := fun n h => hm.sc (n := n) h
  have hul : useB l ms i = sameB (lefS l (ms.eraseIdx i)) (lefS l ms) l.length := rfl
  rw [hul]
  generalize ms.eraseIdx i = es at *
  generalize ms[i] = y
  obtain ⟨y1, y2, y3, y4, y5⟩ := y
  simp only [Ms.av]
  refine acalls_of ok_track_Useless_1 rfl fun hcl => ?_
  unfold ac_track_Useless_1
  simp only [argsT, Nat.zero_add, Nat.reduceAdd]
  have hrl := rd_full hl (lenS (lefS l ms) l.length)
  have ple := (plain_fun (lefS l es)).plain l.length
  have plm := plainMs es
  by_cases h0 : es.length = 0
  · simp only [lsV, lsO, if_pos h0, List.append_nil] at cw
    obtain rfl : es = [] := List.eq_nil_of_length_eq_zero h0
    repeat (first|(with_reducible first|apply X1|apply X2|apply X8|apply Y9)|((with_reducible apply e_end);(simp;exact Red.rfl))|((first|((with_reducible apply O1);rfl)|((with_reducible apply P1);rfl)|((with_reducible apply P2);rfl));(simp (disch:=omega) [rd_old _ htp, ht, rd_old _ hmp, hp];exact Red.rfl);exact Red.rfl;(focus (first|(simp;done)|omega|(simp;omega)))))
    (with_reducible apply d_call); (simp; exact Red.rfl); exact cw _; (focus (simp [hmsc]; try omega))
    skip
    (with_reducible apply d_call_); (simp; exact Red.rfl); exact cn _ _ (.inl ⟨rfl, rfl⟩); (focus (first | (simp; done) | (simp; omega)))
    repeat (first|(with_reducible first|apply X1|apply X2|apply X8)|((with_reducible apply d_end);(simp;exact Red.rfl))|((first|((with_reducible apply O1);rfl)|((with_reducible apply P1);rfl)|((with_reducible apply P3);rfl)|((with_reducible apply P4);rfl));(simp (disch:=omega) [rd_old _ hap, ha];exact Red.rfl);exact Red.rfl;(focus (first|(simp;done)|omega|(simp;omega)))))
    (with_reducible apply e_call); (simp; exact Red.rfl); exact c_Equal _ (lefS l []) (lefS l ms) l.length (H.length + 1) lid 0 0 false false (rd_full (b := true) (by simp [at_new]) (lenS _ _)) (by rw [rd_old _ hli]; exact hrl) (by omega)
    rintro _ _ ⟨rfl, rfl⟩
    repeat (first|(with_reducible first|apply X3|apply X8)|((with_reducible apply e_end);(simp;exact Red.rfl))|((with_reducible apply O1);rfl;(simp (disch:=omega);exact Red.rfl);exact Red.rfl;(focus (first|(simp;done)|omega|(simp;omega)))))
    refine q_drop (.inr rfl) (by simp; exact Red.rfl) (by simp) ⟨rfl, rfl⟩
  · simp only [lsV, lsO, if_neg h0] at cw
    repeat (first|(with_reducible first|apply X1|apply X2|apply X8|apply Y9)|((with_reducible apply e_end);(simp;exact Red.rfl))|((first|((with_reducible apply O1);rfl)|((with_reducible apply P1);rfl)|((with_reducible apply P2);rfl));(simp (disch:=omega) [rd_old _ htp, ht, rd_old _ hmp, hp];exact Red.rfl);exact Red.rfl;(focus (first|(simp;done)|omega|(simp;omega)))))
    (with_reducible apply d_call_); (simp; exact Red.rfl); exact cw _; (focus (simp [hmsc]; try omega))
    simp only [List.append_assoc, List.cons_append, List.nil_append, List.length_append, List.length_cons, List.length_nil, Nat.zero_add]
    (with_reducible apply d_call_); (simp; exact Red.rfl); exact cn [.cells [.int .u8 y1, .int .i64 y2, .int .i64 y3, .int .i64 y4, .int .i64 y5] true, .cells (es.flatMap Ms.av) true] _ (.inr ⟨H.length + 1, 0, false, rfl, rd_full (b := true) (by simp [at_new]) (ms_lenU es)⟩); (focus (first | (simp; done) | (simp; omega)))
    repeat (first|(with_reducible first|apply X1|apply X2|apply X8)|((with_reducible apply d_end);(simp;exact Red.rfl))|((first|((with_reducible apply O1);rfl)|((with_reducible apply P1);rfl)|((with_reducible apply P3);rfl)|((with_reducible apply P4);rfl));(simp (disch:=omega) [rd_old _ hap, ha];exact Red.rfl);exact Red.rfl;(focus (first|(simp;done)|omega|(simp;omega)))))
    (with_reducible apply e_call); (simp; exact Red.rfl); exact c_Equal _ (lefS l es) (lefS l ms) l.length (H.length + 2) lid 0 0 false false (rd_full (b := true) (by simp [at_new]) (lenS _ _)) (by rw [rd_old _ hli]; exact hrl) (by omega)
    rintro _ _ ⟨rfl, rfl⟩
    repeat (first|(with_reducible first|apply X3|apply X8)|((with_reducible apply e_end);(simp;exact Red.rfl))|((with_reducible apply O1);rfl;(simp (disch:=omega);exact Red.rfl);exact Red.rfl;(focus (first|(simp;done)|omega|(simp;omega)))))
    refine q_drop (.inr rfl) (by simp; exact Red.rfl) (by simp) ⟨rfl, rfl⟩
theorem c_pickMs (H : Heap) (sel : Nat → Bool) (ms : List Ms) (id off n tp mp ap : Nat) (ex : Bool) (q : FuncId) (hh : rd H id off (ms.length * 5) = some (ms.flatMap Ms.av)) (hml : ms.length = n) (hn : n ≤ 1000) (ht : tp < H.length) (ha : ap < H.length) (hm : mp < H.length)
    (hq : ∀ (G : Heap) (i : Nat) (h : i < ms.length), ACalls Try.prog q [.int .i64 i, .agg (ms[i]).av, .ptr tp 0, .ptr mp 0, .ptr ap 0] (H ++ G) (fun v h' => v = .bool (sel i) ∧ h' = H ++ G)) :
    ACalls Try.prog F.track_pick_api_Measure [.slice id off n 5 ex, .fn (.func q) [] [.ptr tp 0, .ptr mp 0, .ptr ap 0]] H (fun v h' => v = pV H.length (selF sel n) ∧ h' = pH H (selF sel n)) := by
  refine acalls_of ok_track_pick_api_Measure rfl fun hcl => ?_
  unfold ac_track_pick_api_Measure
  simp only [argsT, Nat.zero_add, Nat.reduceAdd]
  have hid := rd_lt hh
  repeat (first|(with_reducible first|apply X1|apply X2|apply X6|apply X8)|((with_reducible apply e_end);(simp;exact Red.rfl))|((with_reducible apply O1);rfl;(simp (disch:=omega);exact Red.rfl);exact Red.rfl;(focus (first|(simp;done)|omega|(simp;omega)))))
  refine e_loop (ι := { k : Nat // k ≤ n })
    (fun k => [(1, .fn (.func q) [] [.ptr tp 0, .ptr mp 0, .ptr ap 0]), (5, pV H.length (selF sel k.1)), (8, .slice id off n 5 ex), (9, .int .i64 n), (10, .int .i64 k.1)])
    (fun k => pH H (selF sel k.1)) (fun k => n - k.1) ⟨0, by simp⟩ ?_ ?_
  · exact .inr <| le_id (by simp [hid, ht, ha, hm, selF, pV])
  · rintro ⟨k, hk⟩
    dsimp only
    by_cases hlt : k < n
    · have hlt2 : (k : Int) < n := by omega
      have hx := rd_row Ms.av_length hh (show k < ms.length by omega)
      have hq := fun G => hq G k (by omega)
      generalize ms[k]'(by omega) = y at hx hq
      obtain ⟨y1, y2, y3, y4, y5⟩ := y
      simp only [Ms.av] at hx hq
      have hs := selF_succ sel k
      have hl := selF_len sel k
      by_cases hnil : selF sel k = []
      · rw [hnil] at hs ⊢
        simp only [pV, pH, if_true]
        repeat (first|(with_reducible first|apply X1|apply X2|apply X5|apply X6|apply X8)|((with_reducible apply e_end);(simp;exact Red.rfl))|((first|((with_reducible apply O1);rfl)|((with_reducible apply O2);rfl));(simp (disch:=omega) [hlt, hlt2, rd_old _ hid, hx];exact Red.rfl);exact Red.rfl;(focus (first|(simp;done)|omega|(simp;omega))))|((with_reducible apply Z9);(simp (disch:=omega) [hlt, hlt2, rd_old _ hid, hx];exact Red.rfl)))
        (with_reducible apply e_callV); (simp; exact Red.rfl); (simp; exact Red.rfl); exact hq _
        rintro _ _ ⟨rfl, rfl⟩
        cases hb : sel k with
        | true =>
          rw [hb] at hs
          simp only [if_true, List.nil_append] at hs
          repeat (first|(with_reducible first|apply X2|apply X8|apply Y2)|((with_reducible apply e_end);(simp;exact Red.rfl))|((with_reducible apply O1);rfl;(simp (disch:=omega);exact Red.rfl);exact Red.rfl;(focus (first|(simp;done)|omega|(simp;omega))))|((with_reducible apply Z9);(simp (disch:=omega);exact Red.rfl)))
          refine q_again ⟨k + 1, by omega⟩ (by dsimp only; omega) (.inr ?_)
          dsimp only
          rw [hs]
          exact le_plain [2] _ (by simp) rfl (by simp; exact (plainK _).o _) (by simp [sh, hid, ht, ha, hm, AV.ren, renL]; omega)
        | false =>
          rw [hb] at hs
          simp only [Bool.false_eq_true, if_false] at hs
          repeat (first|(with_reducible first|apply X2|apply X5|apply X8|apply Y2)|((with_reducible apply e_end);(simp;exact Red.rfl))|((with_reducible apply O1);rfl;(simp (disch:=omega);exact Red.rfl);exact Red.rfl;(focus (first|(simp;done)|omega|(simp;omega))))|((with_reducible apply W3);(simp (disch:=omega);exact Red.rfl)))
          refine q_again ⟨k + 1, by omega⟩ (by dsimp only; omega) (.inr ?_)
          dsimp only
          rw [hs]
          exact le_drop (by simp [hid, ht, ha, hm])
      · generalize selF sel k = ks at hs hl hnil
        have pk := plainK ks
        have hlk := avK_length ks
        simp only [pV, pH, hnil, if_false]
        repeat (first|(with_reducible first|apply X1|apply X2|apply X5|apply X6|apply X8)|((with_reducible apply e_end);(simp;exact Red.rfl))|((first|((with_reducible apply O1);rfl)|((with_reducible apply O2);rfl));(simp (disch:=omega) [hlt, hlt2, rd_old _ hid, hx];exact Red.rfl);exact Red.rfl;(focus (first|(simp;done)|omega|(simp;omega))))|((with_reducible apply Z9);(simp (disch:=omega) [hlt, hlt2, rd_old _ hid, hx];exact Red.rfl)))
        (with_reducible apply e_callV); (simp; exact Red.rfl); (simp; exact Red.rfl); exact hq _
        rintro _ _ ⟨rfl, rfl⟩
        cases hb : sel k with
        | true =>
          rw [hb] at hs
          simp only [if_true] at hs
          repeat (first|(with_reducible first|apply X2|apply X8|apply Y2)|((with_reducible apply e_end);(simp;exact Red.rfl))|((with_reducible apply O1);rfl;(simp (disch:=omega) [hlk, take_all hlk, pk.scal];exact Red.rfl);exact Red.rfl;(focus (first|(simp;done)|omega|(simp;omega))))|((with_reducible apply Z9);(simp (disch:=omega) [hlk, take_all hlk, pk.scal];exact Red.rfl)))
          refine q_again ⟨k + 1, by omega⟩ (by dsimp only; omega) (.inr ?_)
          dsimp only
          rw [hs, avK_app]
          have hne : ¬ (ks ++ [k] = []) := by simp
          simp only [pV, pH, hne, if_false]
          exact le_plain [3] _ (by simp) rfl (by simp; exact (plainK _).o _) (by simp [sh, hid, ht, ha, hm, AV.ren, renL]; omega)
        | false =>
          rw [hb] at hs
          simp only [Bool.false_eq_true, if_false] at hs
          repeat (first|(with_reducible first|apply X2|apply X5|apply X8|apply Y2)|((with_reducible apply e_end);(simp;exact Red.rfl))|((with_reducible apply O1);rfl;(simp (disch:=omega);exact Red.rfl);exact Red.rfl;(focus (first|(simp;done)|omega|(simp;omega))))|((with_reducible apply W3);(simp (disch:=omega);exact Red.rfl)))
          refine q_again ⟨k + 1, by omega⟩ (by dsimp only; omega) (.inr ?_)
          dsimp only
          rw [hs]
          simp only [pV, pH, hnil, if_false]
          exact le_take (G := [_]) (by simp [pk.sc]) (by simp [hid, ht, ha, hm, Red]; omega)
    · have hlt2 : ¬ (k : Int) < n := by omega
      obtain rfl : k = n := by omega
      repeat (first|(with_reducible first|apply X1|apply X2|apply X3|apply X4|apply X8|apply Y1|apply Y4|apply Y6)|((with_reducible apply e_end);(simp;exact Red.rfl))|((with_reducible apply O1);rfl;(simp (disch:=omega) [hlt, hlt2];exact Red.rfl);exact Red.rfl;(focus (first|(simp;done)|omega|(simp;omega))))|((with_reducible apply W3);(simp (disch:=omega) [hlt, hlt2];exact Red.rfl)))
      exact q_stay (.inr rfl) (by simp; exact Red.rfl) ⟨rfl, rfl⟩

end Go.Proofs
/- Which measures make no difference, as told. -/
namespace Go.Proofs
open Go.Abs
attribute [local simp] AOp.den AOpd.ev lk cellsOf rd_new rd_new0 rd_zero rd_succ wr_new wr_new0 wr_zero wr_succ splice fillA binA scal sliceCells List.length_append argsT AV.sc scL AObj.sc resV getAll AR.get AOp.slots opdSlots opdsSlots partSlots eqAt at_new0 at_new set_new0 set_new wrap64
set_option linter.unusedSimpArgs false
set_option linter.unusedVariables false
theorem c_pickNil (H : Heap) (f : AV) : ACalls Try.prog F.track_pick_api_Measure [.nilslice, f] H (fun v h' => v = .nilslice ∧ h' = H) := by
  refine acalls_of ok_track_pick_api_Measure rfl fun hcl => ?_
  unfold ac_track_pick_api_Measure
  simp only [argsT, Nat.zero_add, Nat.reduceAdd]
  repeat (first|(with_reducible first|apply X1|apply X2|apply X6|apply X8)|((with_reducible apply e_end);(simp;exact Red.rfl))|((with_reducible apply O1);rfl;(simp (disch:=omega);exact Red.rfl);exact Red.rfl;(focus (first|(simp;done)|omega|(simp;omega)))))
  refine e_loop (ι := Unit) (fun _ => [(1, f), (5, .nilslice), (8, .nilslice), (9, .int .i64 0), (10, .int .i64 0)]) (fun _ => H) (fun _ => 0) () (.inl rfl) ?_
  intro _
  repeat (first|(with_reducible first|apply X1|apply X2|apply X3|apply X4|apply X8|apply Y1|apply Y4|apply Y6)|((with_reducible apply e_end);(simp;exact Red.rfl))|((with_reducible apply O1);rfl;(simp (disch:=omega);exact Red.rfl);exact Red.rfl;(focus (first|(simp;done)|omega|(simp;omega))))|((with_reducible apply W3);(simp (disch:=omega);exact Red.rfl)))
  exact q_stay (.inr rfl) (by simp; exact Red.rfl) ⟨rfl, rfl⟩
set_option maxHeartbeats 4000000 in
theorem c_Useless (H : Heap) (l : List Str) (id off : Nat) (ex : Bool) (ms : List Ms) (mv : AV) (hs : rd H id off (l.length * 9) = some (l.flatMap Str.av)) (hv : validL l) (hm : SlM H mv ms) (hok : okMs l.length ms) (hL : goodK kLong l ms) (hF : goodK kFall l ms) :
    ACalls Try.prog F.track_Useless [.agg [.slice id off l.length 9 ex], mv] H (fun v h' => v = .tuple [pV H.length (selF (useB l ms) ms.length), .int .i64 0] ∧ h' = pH H (selF (useB l ms) ms.length)) := by
  refine acalls_of ok_track_Useless rfl fun hcl => ?_
  unfold ac_track_Useless
  simp only [argsT, Nat.zero_add, Nat.reduceAdd]
  have hid := rd_lt hs
  have hms := hok.1
  have hmsc := fun n h => hm.sc (n := n) h
  have cn := fun G => c_NarrowX (H ++ G) l id off ex ms mv (by rw [rd_old _ hid]; exact hs) hv (hm.app G) hok hL hF
  have ple := (plain_fun (lefS l ms)).plain l.length
  have cu := fun G i hi => c_Useless1 (H ++ [.cells [.slice id off l.length 9 ex] true, .cells [mv] true, .cells (avR (fun j => (lefS l ms j).av) l.length) true, .cells [.slice (H.length + 2) 0 l.length 9 false] true] ++ G) l ms mv id off (H.length + 2) H.length (H.length + 1) (H.length + 3) i ex true (by simp only [List.append_assoc, rd_old _ hid]; exact hs) hv ((hm.app _).app _) hok hL hF (by simp) (by simp) (by simp) (by simp [at_new]) hi
  have hm0 := hm
  rcases hm0 with ⟨rfl, rfl⟩ | ⟨mid, moff, mex, rfl, hm2⟩
  · repeat (first|(with_reducible first|apply X1|apply X2|apply X8)|((with_reducible apply e_end);(simp;exact Red.rfl))|((with_reducible apply O1);rfl;(simp (disch:=omega);exact Red.rfl);exact Red.rfl;(focus (first|(simp;done)|omega|(simp;omega)))))
    (with_reducible apply e_call); (simp; exact Red.rfl); exact cn _
    rintro _ _ ⟨rfl, rfl⟩
    repeat (first|(with_reducible first|apply X1|apply X2|apply X5|apply X8)|((with_reducible apply e_end);(simp;exact Red.rfl))|((first|((with_reducible apply O1);rfl)|((with_reducible apply O2);rfl));(simp (disch:=omega);exact Red.rfl);exact Red.rfl;(focus (first|(simp;done)|omega|(simp;omega))))|((with_reducible apply W3);(simp (disch:=omega);exact Red.rfl)))
    (with_reducible apply e_call); (simp; exact Red.rfl); exact c_pickNil _ _
    rintro _ _ ⟨rfl, rfl⟩
    repeat (first|(with_reducible first|apply X3|apply X8)|((with_reducible apply e_end);(simp;exact Red.rfl))|((with_reducible apply O1);rfl;(simp (disch:=omega);exact Red.rfl);exact Red.rfl;(focus (first|(simp;done)|omega|(simp;omega)))))
    exact q_post (v' := .tuple [.nilslice, .int .i64 0]) (.inr rfl) (by simp; exact Red.rfl) (le_drop (by simp)) ⟨rfl, rfl⟩
  · have hmd := rd_lt hm2
    repeat (first|(with_reducible first|apply X1|apply X2|apply X8)|((with_reducible apply e_end);(simp;exact Red.rfl))|((with_reducible apply O1);rfl;(simp (disch:=omega);exact Red.rfl);exact Red.rfl;(focus (first|(simp;done)|omega|(simp;omega)))))
    (with_reducible apply e_call); (simp; exact Red.rfl); exact cn _
    rintro _ _ ⟨rfl, rfl⟩
    repeat (first|(with_reducible first|apply X1|apply X2|apply X5|apply X8)|((with_reducible apply e_end);(simp;exact Red.rfl))|((first|((with_reducible apply O1);rfl)|((with_reducible apply O2);rfl));(simp (disch:=omega);exact Red.rfl);exact Red.rfl;(focus (first|(simp;done)|omega|(simp;omega))))|((with_reducible apply W3);(simp (disch:=omega);exact Red.rfl)))
    (with_reducible apply e_call); (simp; exact Red.rfl); exact c_pickMs _ (useB l ms) ms mid moff ms.length H.length (H.length + 1) (H.length + 3) mex F.track_Useless_1 (by rw [rd_old _ hmd]; exact hm2) rfl (by omega) (by simp) (by simp) (by simp) cu
    rintro _ _ ⟨rfl, rfl⟩
    have pk := plainK (selF (useB l ms) ms.length)
    generalize selF (useB l ms) ms.length = xs at pk ⊢
    by_cases h0 : xs = []
    · subst h0
      simp only [pV, pH, if_true]
      repeat (first|(with_reducible first|apply X3|apply X8)|((with_reducible apply e_end);(simp;exact Red.rfl))|((with_reducible apply O1);rfl;(simp (disch:=omega);exact Red.rfl);exact Red.rfl;(focus (first|(simp;done)|omega|(simp;omega)))))
      exact q_post (v' := .tuple [.nilslice, .int .i64 0]) (.inr rfl) (by simp; exact Red.rfl) (le_drop (by simp)) ⟨rfl, rfl⟩
    · simp only [pV, pH, if_neg h0]
      repeat (first|(with_reducible first|apply X3|apply X8)|((with_reducible apply e_end);(simp;exact Red.rfl))|((with_reducible apply O1);rfl;(simp (disch:=omega);exact Red.rfl);exact Red.rfl;(focus (first|(simp;done)|omega|(simp;omega)))))
      exact q_post (v' := .tuple [.slice H.length 0 xs.length 1 false, .int .i64 0]) (.inr rfl) (by simp; exact Red.rfl) (le_plain [4] [.cells (avK xs) true] (by simp) (by simp) (by simp; exact pk.o _) (by simp [sh, AV.ren, renL])) ⟨rfl, rfl⟩
end Go.Proofs
/- What is told of measures that make no difference, one by one. -/
namespace Go.Proofs
open Go.Abs
attribute [local simp] AOp.den AOpd.ev lk cellsOf rd_new rd_new0 rd_zero rd_succ wr_new wr_new0 wr_zero wr_succ splice fillA binA scal sliceCells List.length_append argsT AV.sc scL AObj.sc resV getAll AR.get AOp.slots opdSlots opdsSlots partSlots eqAt at_new0 at_new set_new0 set_new wrap64
set_option linter.unusedSimpArgs false
set_option linter.unusedVariables false
deriving instance DecidableEq for Ms
/-- A measure that stands at another place as well, among the first ones. -/
def twB (ms : List Ms) (i k : Nat) : Bool := (List.range k).any fun j => decide (j ≠ i) && decide (ms[j]? = ms[i]?)
/-- The measures, turned round. -/
def rotL (ms : List Ms) (q k : Nat) : List Ms := (List.range k).map fun i => ms[(i + q) % ms.length]?.getD ⟨0, 0, 0, 0, 0⟩
end Go.Proofs
