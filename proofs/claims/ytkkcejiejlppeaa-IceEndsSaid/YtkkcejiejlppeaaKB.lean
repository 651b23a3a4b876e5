/- Several texts as one. -/
import Derived.Test.YtkkcejiejlppeaaKA
/- Ice: how ice goes, hour by hour: what is kept of it. -/
namespace Go.Proofs
open Go.Abs
attribute [local simp] AOp.den AOpd.ev lk cellsOf rd_new rd_new0 rd_zero rd_succ wr_new wr_new0 wr_zero wr_succ splice fillA binA scal sliceCells List.length_append argsT AV.sc scL AObj.sc resV getAll AR.get AOp.slots opdSlots opdsSlots partSlots eqAt at_new0 at_new set_new0 set_new wrap64
set_option linter.unusedSimpArgs false
set_option linter.unusedVariables false
theorem renL_map (ρ : Nat → Nat) : ∀ vs : List AV, renL ρ vs = vs.map (AV.ren ρ)
  | [] => rfl
  | v :: vs => by rw [renL, renL_map ρ vs]; rfl
theorem scL_all (n : Nat) : ∀ vs : List AV, scL n vs = vs.all (AV.sc n)
  | [] => rfl
  | v :: vs => by rw [scL, scL_all n vs]; rfl
theorem goO_len (k nb : Nat) (R : Nat → Nat → Int) (m : Nat) (T : List (Int × Int)) : (goO k nb R m T).length = 1 + m + (lsO T.length (pv T)).length := by simp [goO]; omega
theorem goO_at0 (k nb : Nat) (R : Nat → Nat → Int) (m : Nat) (T : List (Int × Int)) : (goO k nb R m T)[0]? = some (.cells (rwV (fun j => .slice (k + 1 + j) 0 nb 1 false) m) true) := rfl
theorem goO_atj (k nb : Nat) (R : Nat → Nat → Int) {m j : Nat} (T : List (Int × Int)) (hj : j < m) : (goO k nb R m T)[1 + j]? = some (.cells (avL (R j) nb) true) := by
  rw [goO, List.cons_append, Nat.add_comm 1 j, List.getElem?_cons_succ, List.getElem?_append_left (by simpa using hj)]; simp [hj]
theorem goO_att (k nb : Nat) (R : Nat → Nat → Int) {m j : Nat} (T : List (Int × Int)) (hj : m ≤ j) : (goO k nb R m T)[1 + j]? = (lsO T.length (pv T))[j - m]? := by
  rw [goO, List.cons_append, Nat.add_comm 1 j, List.getElem?_cons_succ, List.getElem?_append_right (by simpa using hj)]; simp
theorem GS.le {H B A : Heap} {nb : Nat} {R : Nat → Nat → Int} {m : Nat} {N : Nat → Int} {T : List (Int × Int)} {n : Nat} {ids : Nat → Nat} {av tv : AV} {G : Heap} (h : GS A nb R m N T n ids av tv G) (hA : A = H ++ B) (hm : 0 < m) :
    Le H ⟨[(0, .tuple [av, tv])], A ++ G⟩ ⟨[(0, goV H.length m T)], H ++ goO H.length nb R m T⟩ := by
  have hall := h.all
  obtain ⟨_, ⟨_, h0⟩ | ⟨ai, _, rfl, ga⟩⟩ := hall
  · omega
  obtain ⟨la, _, hat, har⟩ := h.alo ai rfl
  rw [List.getElem?_append_right la] at ga
  have hlA : A.length = H.length + B.length := by rw [hA]; simp
  -- where the pairs stand
  obtain ⟨tl, ht1, ht2, ht3, ht4, ht5⟩ : ∃ tl : List Nat, tl.length = (lsO T.length (pv T)).length ∧ tl.Nodup ∧ (∀ (k p : Nat) (o : AObj), (lsO T.length (pv T))[k]? = some o → tl[k]? = some p → PlainO o ∧ B.length ≤ p ∧ G[p - B.length]? = some o) ∧
      (∀ p ∈ tl, isId tv (H.length + p)) ∧ (if T.length = 0 then tv = .nilslice ∧ tl = [] else ∃ p, tl = [p] ∧ tv = .slice (H.length + p) 0 T.length 2 false) := by
    have hth := h.thin
    obtain ⟨_, ⟨rfl, h0⟩ | ⟨ti, h0, rfl, gt⟩⟩ := hth
    · refine ⟨[], by simp [lsO, h0], by simp, fun k p o h1 => by simp [lsO, h0] at h1, by simp, ?_⟩
      simp [h0]
    · have lt := (h.tlo ti rfl).1
      rw [List.getElem?_append_right lt] at gt
      have hne : ¬ T.length = 0 := by omega
      have eti : H.length + (ti - H.length) = ti := by omega
      refine ⟨[ti - H.length], by simp [lsO, hne], by simp, fun k p o h1 h2 => ?_, ?_, ?_⟩
      · simp only [lsO, if_neg hne] at h1
        rcases k with _ | k
        · simp at h1 h2
          subst h1 h2
          exact ⟨(pv_plain T).o true, by omega, by rw [show ti - H.length - B.length = ti - A.length by omega]; exact gt⟩
        · simp at h1
      · intro p hp
        simp only [List.mem_singleton] at hp
        subst hp
        rw [eti]; rfl
      · rw [if_neg hne]; exact ⟨_, rfl, by rw [eti]⟩
  have e0 : (ai - H.length - B.length) = ai - A.length := by omega
  rw [hA, List.append_assoc]
  have hps : ((ai - H.length) :: (((List.range m).map fun j => B.length + ids j) ++ tl)).length = 1 + m + (lsO T.length (pv T)).length := by simp [ht1]; omega
  have getD0 : ((ai - H.length) :: (((List.range m).map fun j => B.length + ids j) ++ tl)).getD 0 0 = ai - H.length := rfl
  have getDj : ∀ j, j < m → ((ai - H.length) :: (((List.range m).map fun j => B.length + ids j) ++ tl)).getD (1 + j) 0 = B.length + ids j := fun j hj => by
    rw [List.getD_eq_getElem?_getD, Nat.add_comm 1 j, List.getElem?_cons_succ, List.getElem?_append_left (by simpa using hj)]; simp [hj]
  have getj : ∀ j, j < m → ((ai - H.length) :: (((List.range m).map fun j => B.length + ids j) ++ tl))[1 + j]? = some (B.length + ids j) := fun j hj => by
    rw [Nat.add_comm 1 j, List.getElem?_cons_succ, List.getElem?_append_left (by simpa using hj)]; simp [hj]
  have gett : ∀ j, m ≤ j → ((ai - H.length) :: (((List.range m).map fun j => B.length + ids j) ++ tl))[1 + j]? = tl[j - m]? := fun j hj => by
    rw [Nat.add_comm 1 j, List.getElem?_cons_succ, List.getElem?_append_right (by simpa using hj)]; simp
  have nod : ((ai - H.length) :: (((List.range m).map fun j => B.length + ids j) ++ tl)).Nodup := by
    refine List.nodup_cons.2 ⟨fun hm => ?_, List.nodup_append.2 ⟨?_, ht2, fun x hx y hy hxy => ?_⟩⟩
    · rcases List.mem_append.1 hm with h1 | h1
      · obtain ⟨j, hj, h2⟩ := List.mem_map.1 h1
        have := har j (List.mem_range.1 hj)
        omega
      · have := ht4 _ h1
        rw [show H.length + (ai - H.length) = ai by omega] at this
        exact hat this
    · refine List.pairwise_map.2 (List.nodup_range.imp_of_mem fun {a b} ha hb hab => ?_)
      have := h.ne3 a b (List.mem_range.1 ha) (List.mem_range.1 hb) hab
      omega
    · obtain ⟨j, hj, h2⟩ := List.mem_map.1 hx
      have h3 := (h.tlo _ (ht4 y hy)).2.2 j (List.mem_range.1 hj)
      omega
  generalize hpp : (ai - H.length) :: (((List.range m).map fun j => B.length + ids j) ++ tl) = ps at *
  refine le_keep ps (by rw [goO_len, hps]) nod ?_ ?_
  · intro k p o h1 h2
    rcases Nat.eq_zero_or_pos k with rfl | hk
    · rw [goO_at0] at h1
      simp only [Option.some.injEq] at h1
      have h3 : p = ai - H.length := by rw [← hpp] at h2; simpa using h2.symm
      subst h1 h3
      refine .inr ⟨?_, ?_⟩
      · simp only [AObj.sc, scL_all, rwV, List.all_eq_true, List.mem_map, List.mem_range]
        rintro _ ⟨j, hj, rfl⟩
        simp only [AV.sc, decide_eq_true_eq, goO_len]
        omega
      · rw [List.getElem?_append_right (by omega), e0, ga]
        simp only [AObj.ren, renL_map, rwV, List.map_map]
        congr 2
        apply List.map_congr_left
        intro j hj
        have hj := List.mem_range.1 hj
        simp only [Function.comp, AV.ren, sh]
        rw [if_neg (by omega), show H.length + 1 + j - H.length = 1 + j by omega, getDj j hj]
        congr 1
        omega
    · obtain ⟨j, rfl⟩ : ∃ j, k = 1 + j := ⟨k - 1, by omega⟩
      by_cases hj : j < m
      · rw [goO_atj _ _ _ _ hj] at h1
        rw [getj j hj] at h2
        simp only [Option.some.injEq] at h1 h2
        subst h1 h2
        exact .inr ⟨by simp [AObj.sc, avL_sc], by rw [List.getElem?_append_right (by omega), show B.length + ids j - B.length = ids j by omega, h.rows j hj]; simp [AObj.ren, avL_ren]⟩
      · rw [goO_att _ _ _ _ (by omega)] at h1
        rw [gett j (by omega)] at h2
        obtain ⟨h3, h4, h5⟩ := ht3 _ _ _ h1 h2
        rcases h3 with rfl | ⟨vs, b, rfl, h3⟩
        · exact .inl rfl
        · exact .inr ⟨h3.sc _, by rw [List.getElem?_append_right h4, h5]; simp [AObj.ren, h3.ren]⟩
  · intro x hx
    simp only [List.mem_singleton] at hx
    subst hx
    have hsh : sh H.length ps H.length = ai := by
      simp only [sh, Nat.lt_irrefl, if_false, Nat.sub_self, getD0]; omega
    split at ht5
    · rename_i h0
      obtain ⟨rfl, rfl⟩ := ht5
      refine ⟨?_, ?_⟩
      · simp [goV, h0, AV.sc, scL, goO_len]; omega
      · simp [goV, h0, lk, AV.ren, renL, hsh]
    · rename_i h0
      obtain ⟨q, rfl, rfl⟩ := ht5
      have hq : ps.getD (1 + m) 0 = q := by rw [List.getD_eq_getElem?_getD, gett m (by omega)]; simp
      have hsh2 : sh H.length ps (H.length + 1 + m) = H.length + q := by
        simp only [sh]
        rw [if_neg (by omega), show H.length + 1 + m - H.length = 1 + m by omega, hq]
      refine ⟨?_, ?_⟩
      · have : (lsO T.length (pv T)).length = 1 := by simp [lsO, h0]
        simp [goV, h0, AV.sc, scL, goO_len, this]; omega
      · simp [goV, h0, lk, AV.ren, renL, hsh, hsh2]
theorem GS.congr {A : Heap} {nb : Nat} {R : Nat → Nat → Int} {m : Nat} {N N' : Nat → Int} {T : List (Int × Int)} {n : Nat} {ids : Nat → Nat} {av tv : AV} {G : Heap} (h : GS A nb R m N T n ids av tv G) (e : avL N nb = avL N' nb) : GS A nb R m N' T n ids av tv G :=
  ⟨h.all, by rw [← e]; exact h.now, h.rows, h.thin, h.alo, h.tlo, h.ne2, h.ne3⟩
def HB (A : Heap) (n : Nat) (tv : AV) (q : Nat) (hv : List AV) (G : Heap) : Prop := G[q]? = some (.cells hv true) ∧ q ≠ n ∧ ∀ i, isId tv i → i ≠ A.length + q
theorem HB.app {A : Heap} {n : Nat} {tv : AV} {q : Nat} {hv : List AV} {G : Heap} (h : HB A n tv q hv G) (X : Heap) : HB A n tv q hv (G ++ X) := ⟨by rw [List.getElem?_append_left (List.getElem?_eq_some_iff.1 h.1).1]; exact h.1, h.2⟩
theorem HB.set {A : Heap} {n : Nat} {tv : AV} {q : Nat} {hv : List AV} {G : Heap} (h : HB A n tv q hv G) (o : AObj) : HB A n tv q hv (G.set n o) := ⟨by rw [List.getElem?_set, if_neg (fun h2 => h.2.1 h2.symm)]; exact h.1, h.2⟩
theorem HB.more {A : Heap} {n : Nat} {tv tv' : AV} {q : Nat} {hv : List AV} {G G' : Heap} (h : HB A n tv q hv G) (h2 : ∀ i, isId tv' i → A.length + G.length ≤ i)
    (h3 : ∀ i, i < A.length + G.length → ¬ isId tv i → (A ++ G')[i]? = (A ++ G)[i]?) : HB A n tv' q hv G' := by
  have hq := (List.getElem?_eq_some_iff.1 h.1).1
  refine ⟨?_, h.2.1, fun i hi => by have := h2 i hi; omega⟩
  have := h3 (A.length + q) (by omega) (fun hh => h.2.2 _ hh rfl)
  simp only [at_new] at this
  rw [this]; exact h.1
theorem HB.rd {A : Heap} {n : Nat} {tv : AV} {q : Nat} {hv : List AV} {G : Heap} (h : HB A n tv q hv G) (X : Heap) (j k : Nat) (hk : j + k ≤ hv.length) : rd (G ++ X) q j k = some ((hv.drop j).take k) := by
  have := (h.app X).1
  unfold Go.Abs.rd
  simp only [this]
  rw [if_pos hk]
theorem cv_Has (H : Heap) (v : AV) (l : List Int) (x : Int) (hl : IAt H v l) (hn : (l.length : Int) < 1000000) {b : Bool} (hb : b = true ↔ x ∈ l) :
    ACalls Try.prog F.ref02_Has [v, .int .i64 x] H (fun v h' => v = .bool b ∧ h' = H) := by
  have hsc : ∀ k, v.sc (H.length + k) = true := fun k => RAt.sc hl (by omega)
  refine acalls_of ok_ref02_Has rfl fun hcl => ?_
  unfold ac_ref02_Has
  simp only [argsT, Nat.zero_add, Nat.reduceAdd]
  repeat (first|(with_reducible first|apply X1|apply X2|apply X6|apply X8)|((with_reducible apply e_end);(simp;exact Red.rfl))|((with_reducible apply O1);rfl;(simp (disch:=omega);exact Red.rfl);exact Red.rfl;(focus (first|(simp;done)|omega|(simp;omega)))))
  refine e_loop (ι := { i : Nat // i ≤ l.length ∧ ∀ j (hj : j < l.length), j < i → l[j] ≠ x })
    (fun i => [(0, v), (1, .int .i64 x), (5, .int .i64 i.1)]) (fun _ => H) (fun i => l.length - i.1) ⟨0, by simp⟩ ?_ ?_
  · exact .inr <| le_id (by simp; exact hsc 0)
  · rintro ⟨i, hi1, hi2⟩
    dsimp only
    repeat (first|(with_reducible first|apply X1|apply X2)|((with_reducible apply O1);rfl;(simp (disch:=omega);exact Red.rfl);exact Red.rfl;(focus (first|(simp;done)|omega|(simp;omega)))))
    (with_reducible apply e_op); rfl; exact RAt.len hl _ (by simp); exact Red.rfl; trivial
    by_cases hlt : i < l.length
    · have hlt2 : (i : Int) < l.length := by omega
      obtain ⟨id, off, ex, rfl, hx, hid⟩ := IAt.get hl hlt
      by_cases he : l[i] = x
      · repeat (first|(with_reducible first|apply X1|apply X2|apply X3|apply X5|apply X6|apply X8|apply X9|apply Y3|apply Y5)|((with_reducible apply e_end);(simp;exact Red.rfl))|((with_reducible apply O1);rfl;(simp (disch:=omega) [hlt, hlt2, hx, he];exact Red.rfl);exact Red.rfl;(focus (first|(simp;done)|omega|(simp;omega))))|((with_reducible apply Z9);(simp (disch:=omega) [hlt, hlt2, hx, he];exact Red.rfl)))
        refine q_stay (.inr rfl) (by simp; exact Red.rfl) ⟨by rw [AV.bool.injEq]; exact (hb.2 (by rw [← he]; exact List.getElem_mem _)).symm, rfl⟩
      · repeat (first|(with_reducible first|apply X1|apply X2|apply X5|apply X6|apply X8|apply Y2)|((with_reducible apply e_end);(simp;exact Red.rfl))|((with_reducible apply O1);rfl;(simp (disch:=omega) [hlt, hlt2, hx, he];exact Red.rfl);exact Red.rfl;(focus (first|(simp;done)|omega|(simp;omega))))|((with_reducible apply Z9);(simp (disch:=omega) [hlt, hlt2, hx, he];exact Red.rfl))|((with_reducible apply W3);(simp (disch:=omega) [hlt, hlt2, hx, he];exact Red.rfl)))
        refine q_again ⟨i + 1, hlt, ?_⟩ (by dsimp only; omega) (.inr (le_id (by simp; exact hid)))
        intro j hj hji
        rcases Nat.lt_or_ge j i with h | h
        · exact hi2 j hj h
        · obtain rfl : j = i := by omega
          exact he
    · have hlt2 : ¬ (i : Int) < l.length := by omega
      repeat (first|(with_reducible first|apply X1|apply X2|apply X3|apply X4|apply X8|apply Y1|apply Y4|apply Y6)|((with_reducible apply e_end);(simp;exact Red.rfl))|((with_reducible apply O1);rfl;(simp (disch:=omega) [hlt2];exact Red.rfl);exact Red.rfl;(focus (first|(simp;done)|omega|(simp;omega))))|((with_reducible apply W3);(simp (disch:=omega) [hlt2];exact Red.rfl)))
      refine q_stay (.inr rfl) (by simp; exact Red.rfl) ⟨?_, rfl⟩
      rw [AV.bool.injEq]
      cases b with
      | false => rfl
      | true =>
        obtain ⟨j, hj, hjx⟩ := List.getElem_of_mem (hb.1 rfl)
        exact absurd hjx (hi2 j hj (by omega))
def rowF (c : Cv) (t : Tn) (P : Nat → Nat → Bool) (h s : Nat) : Int := befF c t P s h
def nowF (c : Cv) (t : Tn) (P : Nat → Nat → Bool) (h i s : Nat) : Int := if s < i then befF c t P s (h + 1) else befF c t P s h
def thI (c : Cv) (t : Tn) (P : Nat → Nat → Bool) (h i : Nat) : List (Int × Int) := thP c t P h ++ (thL c t P h i).map fun s => ((h : Int), s)
set_option maxHeartbeats 4000000 in
theorem c_goes (H : Heap) (l : List Str) (c : Cv) (p : Plc) (hp : CvAt H c p) (hc : c.ok l.length) (hv : validL l) (t : Tn) (ht : Tn.ok c t) (i1 i2 : Nat) (x1 x2 : Bool) (ht1 : rd H i1 0 c.bs.length = some (avL t.thick c.bs.length)) (ht2 : rd H i2 0 c.hs.length = some (avL t.melt c.hs.length))
    (pl : AV) (L : Nat → List Int) (hpl : PlAt H pl c.hs.length L) (hL : okPl c L) :
    ACalls Try.prog F.law02_truth_goes [.agg [.slice i1 0 c.bs.length 1 x1, .slice i2 0 c.hs.length 1 x2, .int .i64 t.wear, .int .i64 t.layer], .agg (c.av p), pl] H
      (fun v h' => v = goV H.length (c.hs.length + 1) (thP c t (inP L) c.hs.length) ∧ h' = H ++ goO H.length c.bs.length (rowF c t (inP L)) (c.hs.length + 1) (thP c t (inP L) c.hs.length)) := by
  have hp1 := hp.t
  have hp2 := rd_lt hp.b
  have hp3 := rd_lt hp.h
  have h12 := hv.1
  have hlen := hc.len
  have h8 := hc.hours
  have hi1 := rd_lt ht1
  have hi2 := rd_lt ht2
  have hru := hc.rul
  simp only [Cv.ruled] at hru
  obtain ⟨pid, poff, pex, rfl, hpid, hprow⟩ := hpl.get
  have hcv := hp
  simp only [Cv.av] at *
  refine acalls_of ok_law02_truth_goes rfl fun hcl => ?_
  unfold ac_law02_truth_goes
  simp only [argsT, Nat.zero_add, Nat.reduceAdd]
  repeat (first|(with_reducible first|apply X1|apply X2|apply X6|apply X8)|((with_reducible apply e_end);(simp;exact Red.rfl))|((with_reducible apply O1);rfl;(simp (disch:=omega) [rd_old _ hi1, ht1, avL_length, avL_take, avL_scal, Nat.zero_add];exact Red.rfl);exact Red.rfl;(focus (first|(simp;done)|omega|(simp;omega)))))
  have hP : ∀ h s : Nat, inP L h s = decide ((s : Int) ∈ L h) := fun _ _ => rfl
  have hLl := okPl_len hc hL
  clear hpl
  generalize inP L = P at *
  obtain ⟨A, hA⟩ : ∃ A, A = H ++ [AObj.cells [.slice i1 0 c.bs.length 1 x1, .slice i2 0 c.hs.length 1 x2, .int .i64 t.wear, .int .i64 t.layer] true, .cells [.slice p.tid p.toff p.tn 9 p.tex, .slice p.bid p.boff c.bs.length 3 p.bex, .slice p.hid p.hoff c.hs.length 5 p.hex, .int .i64 c.w1, .int .i64 c.w2, .int .i64 c.y1, .int .i64 c.y2, .int .i64 c.rate, .int .i64 c.lim, .int .i64 c.base] true] := ⟨_, rfl⟩
  have hAl : A.length = H.length + 2 := by rw [hA]; simp
  have g1 : H.length < A.length := by omega
  have g2 : H.length + 1 < A.length := by omega
  have g3 : p.bid < A.length := by omega
  have g4 : p.hid < A.length := by omega
  have g5 : pid < A.length := by omega
  have g6 : i2 < A.length := by omega
  have a1 : rd A H.length 1 1 = some [.slice i2 0 c.hs.length 1 x2] := by rw [hA]; simp
  have a2 : rd A H.length 2 1 = some [.int .i64 t.wear] := by rw [hA]; simp
  have a3 : rd A H.length 3 1 = some [.int .i64 t.layer] := by rw [hA]; simp
  have b1 : rd A (H.length + 1) 1 1 = some [.slice p.bid p.boff c.bs.length 3 p.bex] := by rw [hA]; simp
  have b8 : rd A (H.length + 1) 8 1 = some [.int .i64 c.lim] := by rw [hA]; simp
  have b9 : rd A (H.length + 1) 9 1 = some [.int .i64 c.base] := by rw [hA]; simp
  have hpA : CvAt A c p := hA ▸ hcv.app _
  have hprA : ∀ (k : Nat), k < c.hs.length → ∃ x, rd A pid (poff + k) 1 = some [x] ∧ IAt A x (L k) := fun k hk => by
    obtain ⟨x, h1, h2⟩ := hprow k hk
    exact ⟨x, by rw [hA, rd_old _ hpid]; exact h1, by rw [hA]; exact h2.app _⟩
  have hm2 : ∀ h, h < c.hs.length → rd A i2 h 1 = some [.int .i64 (t.melt h)] := fun h hh => by
    have := rd_sub' ht2 h 1 (by omega)
    rw [hA, rd_old _ hi2]
    simp only [Nat.zero_add] at this
    rw [this]
    have e : (avL t.melt c.hs.length).drop h = .int .i64 (t.melt h) :: (avL t.melt c.hs.length).drop (h + 1) := by
      rw [List.drop_eq_getElem_cons (by rw [avL_length]; omega)]; congr 1; simp [avL]
    rw [e]; rfl
  refine e_loop (ι := { x : Nat × Heap × AV × AV × (Nat → Nat) // x.1 ≤ c.hs.length ∧ GS A c.bs.length (rowF c t P) (x.1 + 1) (rowF c t P x.1) (thP c t P x.1) 1 x.2.2.2.2 x.2.2.1 x.2.2.2.1 x.2.1 })
    (fun x => [(2, .slice pid poff c.hs.length 1 pex), (3, .ptr H.length 0), (4, .ptr (H.length + 1) 0), (6, x.1.2.2.1), (7, x.1.2.2.2.1), (8, .slice (A.length + 1) 0 c.bs.length 1 false), (24, .slice p.hid p.hoff c.hs.length 5 p.hex), (25, .int .i64 c.hs.length), (26, .int .i64 x.1.1)])
    (fun x => A ++ x.1.2.1) (fun x => c.hs.length - x.1.1)
    ⟨(0, [.dead, .cells (avL t.thick c.bs.length) true, .dead, .cells (avL t.thick c.bs.length) true, .cells [.slice (H.length + 5) 0 c.bs.length 1 false] true, .cells [.slice (H.length + 5) 0 c.bs.length 1 false] true], .slice (H.length + 7) 0 1 1 false, .nilslice, fun _ => 3), by simp, ?_⟩ ?_ ?_
  · refine ⟨⟨by simp [rwV], .inr ⟨_, by omega, rfl, ?_⟩⟩, rfl, fun k hk => ?_, AAt.nil _ _, ?_, fun i hi => hi.elim, by simp, fun k j hk hj hne => by omega⟩
    · rw [show H.length + 7 = A.length + 5 by omega, at_new]
      simp [rwV, hAl]
    · obtain rfl : k = 0 := by omega
      rfl
    · intro i hi
      have : H.length + 7 = i := hi
      exact ⟨by omega, by omega, fun h => h.elim, fun k hk => by dsimp only; omega⟩
  · refine .inl ?_
    simp [hA]
  · clear ht1 hprow
    rintro ⟨⟨h, G, av, tv, ids⟩, hh, hG⟩
    dsimp only at hh hG ⊢
    by_cases hlt : h < c.hs.length
    · have hlt2 : (h : Int) < c.hs.length := by omega
      have hx := hpA.hour hlt
      rcases hz : c.h h with ⟨z1, z2, z3, z4, z5⟩
      rw [hz] at hx
      simp only [Hr.av] at hx
      have hav := fun k => hG.all.l.sc (m := A.length + (G.length + k)) (by simp)
      have htv := fun k => hG.thin.l.sc (m := A.length + (G.length + k)) (by simp)
      repeat (first|(with_reducible first|apply X1|apply X2|apply X5|apply X6|apply X8)|((with_reducible apply e_end);(simp;exact Red.rfl))|((first|((with_reducible apply O1);rfl)|((with_reducible apply O2);rfl));(simp (disch:=omega) [hlt, hlt2, rd_old _ g4, hx, rd_old _ g2, b1];exact Red.rfl);exact Red.rfl;(focus (first|(simp;done)|omega|(simp;omega))))|((with_reducible apply Z9);(simp (disch:=omega) [hlt, hlt2, rd_old _ g4, hx, rd_old _ g2, b1];exact Red.rfl)))
      refine e_loop (ι := { x : Nat × Heap × AV // x.1 ≤ c.bs.length ∧ GS A c.bs.length (rowF c t P) (h + 1) (nowF c t P h x.1) (thI c t P h x.1) 1 ids av x.2.2 x.2.1 ∧ HB A 1 x.2.2 G.length [.int .i64 z1, .int .i64 z2, .int .i64 z3, .int .i64 z4, .bool z5] x.2.1 })
        (fun x => [(2, .slice pid poff c.hs.length 1 pex), (3, .ptr H.length 0), (4, .ptr (H.length + 1) 0), (6, av), (7, x.1.2.2), (8, .slice (A.length + 1) 0 c.bs.length 1 false), (9, .int .i64 h), (10, .ptr (A.length + G.length) 0), (24, .slice p.hid p.hoff c.hs.length 5 p.hex), (25, .int .i64 c.hs.length), (26, .int .i64 h), (32, .slice p.bid p.boff c.bs.length 3 p.bex), (33, .int .i64 c.bs.length), (34, .int .i64 x.1.1)])
        (fun x => A ++ x.1.2.1) (fun x => c.bs.length - x.1.1) ⟨(0, G ++ [.cells [.int .i64 z1, .int .i64 z2, .int .i64 z3, .int .i64 z4, .bool z5] true], tv), by simp, ?_, ?_⟩ ?_ ?_
      · have : nowF c t P h 0 = rowF c t P h := by funext s; simp [nowF, rowF]
        dsimp only
        rw [this, show thI c t P h 0 = thP c t P h by simp [thI, thL]]
        exact hG.app _
      · exact ⟨by simp, by have := hG.nlt; omega, fun i hi => by have := hG.tlt hi; omega⟩
      · exact .inl rfl
      · generalize hq : G.length = q at *
        clear hG hav htv
        clear hq G tv
        rintro ⟨⟨i, G, tv⟩, hi, hG, hB⟩
        dsimp only at hi hG hB ⊢
        by_cases hil : i < c.bs.length
        · have hil2 : (i : Int) < c.bs.length := by omega
          have hy := hpA.bed hil
          rcases hw : c.b i with ⟨w1, w2, w3⟩
          rw [hw] at hy
          simp only [Bd.av] at hy
          have hav := fun k => hG.all.l.sc (m := A.length + (G.length + k)) (by simp)
          have htv := fun k => hG.thin.l.sc (m := A.length + (G.length + k)) (by simp)
          have hNi : nowF c t P h i i = befF c t P i h := by simp [nowF]
          have hcl := fun X => hG.cell hil X
          have hpt := fun X => (hG.app X).put hil
          rw [hNi] at hcl
          have hlb := loss_bd hc ht hil hlt
          have hbb := bef_bd hc ht P hil hh
          rw [hw, hz] at hlb
          dsimp only at hlb
          repeat (first|(with_reducible first|apply X1|apply X2|apply X5|apply X6|apply X8|apply Y9)|((with_reducible apply e_end);(simp;exact Red.rfl))|((first|((with_reducible apply O1);rfl)|((with_reducible apply O2);rfl)|((with_reducible apply P1);rfl)|((with_reducible apply P2);rfl));(simp (disch:=omega) [hil, hil2, rd_old _ g3, hy, hcl, hm2 h hlt, rd_old _ g1, a1, a2, rd_old _ g6, hlt, hB.rd _ 2 1 (by simp), hpt];exact Red.rfl);exact Red.rfl;(focus (first|(simp;done)|omega|(simp;omega))))|((with_reducible apply Z9);(simp (disch:=omega) [hil, hil2, rd_old _ g3, hy, hcl, hm2 h hlt, rd_old _ g1, a1, a2, rd_old _ g6, hlt, hB.rd _ 2 1 (by simp), hpt];exact Red.rfl)))
          have hnl := hG.nlt
          (with_reducible apply d_do_); rfl; rfl; (simp (disch := omega) [hpt]; exact Red.rfl); exact Red.rfl
          · (first | (simp; done) | omega | (simp; omega))
          · (first | (simp; done) | omega | (simp; omega))
          · (first | (simp; done) | omega | (simp; omega))
          · simp [recheck, pr, AOp.sem, hpt]
          simp only [St.put]
          have hG2 := (hG.set (fun j => if j = i then befF c t P i h - (w3 * t.melt h + z3 * t.wear) else nowF c t P h i j)).app [.cells [.int .i64 w1, .int .i64 w2, .int .i64 w3] true]
          have hB2 := (hB.set (.cells (avL (fun j => if j = i then befF c t P i h - (w3 * t.melt h + z3 * t.wear) else nowF c t P h i j) c.bs.length) true)).app [.cells [.int .i64 w1, .int .i64 w2, .int .i64 w3] true]
          have hlo : lossF c t i h = w3 * t.melt h + z3 * t.wear := by simp only [lossF, hw, hz]
          have hvb : -1650 ≤ befF c t P i h - lossF c t i h ∧ befF c t P i h - lossF c t i h ≤ 2000 + 100 * h := by omega
          rw [hlo] at hvb
          have hto : tooF c t P h i = decide (befF c t P i h - (w3 * t.melt h + z3 * t.wear) < c.base ∨ (0 < z3 ∧ befF c t P i h - (w3 * t.melt h + z3 * t.wear) < c.lim)) := by
            simp only [tooF, asks, hlo, hz, decide_eq_decide]
            split <;> omega
          have hbs : befF c t P i (h + 1) = max 0 (befF c t P i h - (w3 * t.melt h + z3 * t.wear)) + if P h i then t.layer else 0 := by simp only [befF, hlo]
          clear hcl hpt hNi hB hav htv hlb
          generalize hGG : List.set G 1 (.cells (avL (fun j => if j = i then befF c t P i h - (w3 * t.melt h + z3 * t.wear) else nowF c t P h i j) c.bs.length) true) ++ [AObj.cells [.int .i64 w1, .int .i64 w2, .int .i64 w3] true] = G2 at *
          generalize hv1 : befF c t P i h - (w3 * t.melt h + z3 * t.wear) = v at *
          have hnl2 := hG2.nlt
          have hav := fun k => hG2.all.l.sc (m := A.length + (G2.length + k)) (by simp)
          have htv := fun k => hG2.thin.l.sc (m := A.length + (G2.length + k)) (by simp)
          have hcl := fun X => hG2.cell hil X
          simp only [if_true] at hcl
          have hcl0 := hcl []
          rw [List.append_nil] at hcl0
          have hrun := hB2.rd [] 2 1 (by simp)
          rw [List.append_nil] at hrun
          repeat (first|(with_reducible first|apply X1|apply X8|apply Y9)|((with_reducible apply d_end);(simp;exact Red.rfl))|((first|((with_reducible apply P1);rfl)|((with_reducible apply P2);rfl));(simp (disch:=omega) [hil, hil2, hcl0, rd_old _ g2, b9];exact Red.rfl);exact Red.rfl;(focus (first|(simp;done)|omega|(simp;omega)))))
          refine d_cut (fun t' h' => t' = [(2, .slice pid poff c.hs.length 1 pex), (3, .ptr H.length 0), (4, .ptr (H.length + 1) 0), (6, av), (7, tv), (8, .slice (A.length + 1) 0 c.bs.length 1 false), (9, .int .i64 h), (10, .ptr (A.length + q) 0), (11, .int .i64 i), (24, .slice p.hid p.hoff c.hs.length 5 p.hex), (25, .int .i64 c.hs.length), (26, .int .i64 h), (32, .slice p.bid p.boff c.bs.length 3 p.bex), (33, .int .i64 c.bs.length), (34, .int .i64 i), (79, .bool (tooF c t P h i))] ∧ h' = A ++ G2) ?_ ?_
          · by_cases y1 : v < c.base
            · have : tooF c t P h i = true := by rw [hto]; simp [y1]
              rw [this]
              repeat (first|((with_reducible apply d_end);(simp;exact Red.rfl))|((with_reducible apply P1);rfl;(simp (disch:=omega) [hil, hil2, hcl0, rd_old _ g2, b9, b8, y1, hrun];exact Red.rfl);exact Red.rfl;(focus (first|(simp;done)|omega|(simp;omega))))|((with_reducible apply Z6);(simp (disch:=omega) [hil, hil2, hcl0, rd_old _ g2, b9, b8, y1, hrun];exact Red.rfl))|((with_reducible apply W2);(simp (disch:=omega) [hil, hil2, hcl0, rd_old _ g2, b9, b8, y1, hrun];exact Red.rfl)))
              exact q_keep ⟨rfl, rfl⟩
            · by_cases y2 : 0 < z3
              · by_cases y3 : v < c.lim
                · have : tooF c t P h i = true := by rw [hto]; simp [y2, y3]
                  rw [this]
                  repeat (first|((with_reducible apply d_end);(simp;exact Red.rfl))|((first|((with_reducible apply P1);rfl)|((with_reducible apply P2);rfl));(simp (disch:=omega) [hil, hil2, hcl0, rd_old _ g2, b9, b8, y1, y2, y3, hrun];exact Red.rfl);exact Red.rfl;(focus (first|(simp;done)|omega|(simp;omega))))|((with_reducible apply Z8);(simp (disch:=omega) [hil, hil2, hcl0, rd_old _ g2, b9, b8, y1, y2, y3, hrun];exact Red.rfl)))
                  exact q_keep ⟨rfl, rfl⟩
                · have : tooF c t P h i = false := by rw [hto]; simp [y1, y3]
                  rw [this]
                  repeat (first|((with_reducible apply d_end);(simp;exact Red.rfl))|((first|((with_reducible apply P1);rfl)|((with_reducible apply P2);rfl));(simp (disch:=omega) [hil, hil2, hcl0, rd_old _ g2, b9, b8, y1, y2, y3, hrun];exact Red.rfl);exact Red.rfl;(focus (first|(simp;done)|omega|(simp;omega))))|((with_reducible apply Z8);(simp (disch:=omega) [hil, hil2, hcl0, rd_old _ g2, b9, b8, y1, y2, y3, hrun];exact Red.rfl)))
                  exact q_keep ⟨rfl, rfl⟩
              · have : tooF c t P h i = false := by rw [hto]; simp [y1, y2]
                rw [this]
                repeat (first|((with_reducible apply d_end);(simp;exact Red.rfl))|((first|((with_reducible apply P1);rfl)|((with_reducible apply P2);rfl));(simp (disch:=omega) [hil, hil2, hcl0, rd_old _ g2, b9, b8, y1, y2, hrun];exact Red.rfl);exact Red.rfl;(focus (first|(simp;done)|omega|(simp;omega))))|((with_reducible apply Z8);(simp (disch:=omega) [hil, hil2, hcl0, rd_old _ g2, b9, b8, y1, y2, hrun];exact Red.rfl))|((with_reducible apply Z5);(simp (disch:=omega) [hil, hil2, hcl0, rd_old _ g2, b9, b8, y1, y2, hrun];exact Red.rfl)))
                exact q_keep ⟨rfl, rfl⟩
          rintro _ _ ⟨rfl, rfl⟩
          apply q_then
          have hlen1 : (thI c t P h i).length ≤ 8 * 12 + 12 := by
            have u1 := thP_len c t P h
            have u2 := thL_len c t P h i
            have u3 : h * c.bs.length ≤ 8 * 12 := Nat.mul_le_mul (by omega) (by omega)
            simp only [thI, List.length_append, List.length_map]; omega
          have hthS : thI c t P h (i + 1) = if tooF c t P h i = true then thI c t P h i ++ [((h : Int), (i : Int))] else thI c t P h i := by
            simp only [thI, thL_succ]; split <;> simp
          refine c_cut (fun t' h' => ∃ (G3 : Heap) (tv3 : AV) (tl : List (Nat × AV)), t' = (2, .slice pid poff c.hs.length 1 pex) :: (3, .ptr H.length 0) :: (4, .ptr (H.length + 1) 0) :: (6, av) :: (7, tv3) :: (8, .slice (A.length + 1) 0 c.bs.length 1 false) :: (9, .int .i64 h) :: (10, .ptr (A.length + q) 0) :: (11, .int .i64 i) :: (24, .slice p.hid p.hoff c.hs.length 5 p.hex) :: (25, .int .i64 c.hs.length) :: (26, .int .i64 h) :: (32, .slice p.bid p.boff c.bs.length 3 p.bex) :: (33, .int .i64 c.bs.length) :: (34, .int .i64 i) :: tl ∧ h' = A ++ G3 ∧
            GS A c.bs.length (rowF c t P) (h + 1) (fun j => if j = i then v else nowF c t P h i j) (thI c t P h (i + 1)) 1 ids av tv3 G3 ∧ HB A 1 tv3 q [.int .i64 z1, .int .i64 z2, .int .i64 z3, .int .i64 z4, .bool z5] G3) ?_ ?_
          · cases hT : tooF c t P h i with
            | false =>
              rw [hthS, if_neg (by rw [hT]; simp)]
              repeat (first|(with_reducible apply X5)|((with_reducible apply W3);(simp (disch:=omega);exact Red.rfl)))
              exact q_cut ⟨G2, tv, _, rfl, rfl, hG2, hB2⟩
            | true =>
              rw [hthS, if_pos hT]
              repeat (first|(with_reducible apply X2)|((with_reducible apply O1);rfl;(simp (disch:=omega);exact Red.rfl);exact Red.rfl;(focus (first|(simp;done)|omega|(simp;omega))))|((with_reducible apply Z9);(simp (disch:=omega);exact Red.rfl)))
              refine e_appA (A := A) (G := G2 ++ [.cells [.int .i64 h, .int .i64 i] true]) (cs := pv (thI c t P h i)) (n := (thI c t P h i).length) (m := 1) (new := [.int .i64 h, .int .i64 i]) rfl (by simp; exact Red.rfl) (by simp; exact Red.rfl) (hG2.app _).thin (fun k hk => (hG2.tlo k hk).1) (by simp) (by simp) (by omega) (by omega) ?_
              intro G3 v3 f3 f4 f5 f6 f7
              have hv3 := fun k => f3.l.sc (m := A.length + (G3.length + k)) (by simp)
              have hav3 : ∀ k, av.sc (A.length + (G3.length + k)) = true := fun k => hG2.all.l.sc (by simp at f7 ⊢; omega)
              simp at f7
              repeat (first|((with_reducible apply e_end);(simp;exact Red.rfl))|((with_reducible apply O1);rfl;(simp (disch:=omega);exact Red.rfl);exact Red.rfl;(focus (first|(simp;done)|omega|(simp;omega)))))
              have hmo : AAt (A ++ G3) 2 v3 (pv (thI c t P h i ++ [((h : Int), (i : Int))])) (thI c t P h i ++ [((h : Int), (i : Int))]).length := by
                rw [pv_app, List.length_append]; exact f3
              have f5' : ∀ k, k < A.length + (G2 ++ [AObj.cells [.int .i64 h, .int .i64 i] true]).length → ¬ isId tv k → (A ++ G3)[k]? = (A ++ (G2 ++ [AObj.cells [.int .i64 h, .int .i64 i] true]))[k]? := fun k hk => f5 k (by simpa using hk)
              have f6' : ∀ k, isId v3 k → A.length + (G2 ++ [AObj.cells [.int .i64 h, .int .i64 i] true]).length ≤ k := fun k hk => by have := f6 k hk; simpa using this
              exact q_cut ⟨G3, v3, [], rfl, rfl, (hG2.app _).more hmo f6' f5', (hB2.app _).more f6' f5'⟩
          · clear hG2 hB2 hGG hav htv hcl hcl0 hrun hnl2 hthS hto hlen1
            clear G2 hG hnl tv
            rintro _ _ ⟨G3, tv3, tl, rfl, rfl, hG3, hB3⟩
            apply q_then
            have hnl3 := hG3.nlt
            have hav := fun k => hG3.all.l.sc (m := A.length + (G3.length + k)) (by simp)
            have htv := fun k => hG3.thin.l.sc (m := A.length + (G3.length + k)) (by simp)
            have hcl := hG3.cell hil []
            have hpt := hG3.put hil (if 0 < v then v else 0)
            simp only [if_true, List.append_nil] at hcl hpt
            obtain ⟨xl, hxl, hxi⟩ := hprA h hlt
            repeat (first|(with_reducible first|apply X1|apply X2|apply X8)|((with_reducible apply e_end);(simp;exact Red.rfl))|((first|((with_reducible apply O1);rfl)|((with_reducible apply O2);rfl));(simp (disch:=omega) [hil, hil2, hcl, hpt];exact Red.rfl);exact Red.rfl;(focus (first|(simp;done)|omega|(simp;omega)))))
            have hG4 := hG3.set (fun j => if j = i then if 0 < v then v else 0 else if j = i then v else nowF c t P h i j)
            have hB4 := hB3.set (.cells (avL (fun j => if j = i then if 0 < v then v else 0 else if j = i then v else nowF c t P h i j) c.bs.length) true)
            have hm : (if 0 < v then v else 0) = max 0 v := by split <;> omega
            generalize hGG : List.set G3 1 (AObj.cells (avL (fun j => if j = i then if 0 < v then v else 0 else if j = i then v else nowF c t P h i j) c.bs.length) true) = G4 at *
            rw [hm] at hG4
            clear hGG hpt hcl hG3 hB3 hnl3 hav htv
            have hnl4 := hG4.nlt
            have hav := fun k => hG4.all.l.sc (m := A.length + (G4.length + k)) (by simp)
            have htv := fun k => hG4.thin.l.sc (m := A.length + (G4.length + k)) (by simp)
            obtain ⟨hav0, htv0⟩ : av.sc (A.length + G4.length) = true ∧ tv3.sc (A.length + G4.length) = true := ⟨hav 0, htv 0⟩
            have hcl := hG4.cell hil []
            have hpt := fun x => hG4.put hil x
            simp only [if_true, List.append_nil] at hcl hpt
            repeat ((with_reducible apply O1);rfl;(simp (disch:=omega) [rd_old _ g5, hxl, hlt];exact Red.rfl);exact Red.rfl;(focus (first|(simp;done)|omega|(simp;omega))))
            (with_reducible apply e_call); (simp; exact Red.rfl); exact cv_Has _ xl (L h) i (hxi.app _) (hLl h hlt) (show P h i = true ↔ (i : Int) ∈ L h by rw [hP]; simp)
            rintro _ _ ⟨rfl, rfl⟩
            have hly : 1 ≤ t.layer ∧ t.layer ≤ 100 := by have := ht.layer; omega
            have hmx : 0 ≤ max 0 v ∧ max 0 v ≤ 4000 := by omega
            have hN4 : ∀ f : Nat → Int, f i = befF c t P i (h + 1) → (∀ j, j ≠ i → f j = nowF c t P h i j) → avL f c.bs.length = avL (nowF c t P h (i + 1)) c.bs.length := fun f h1 h2 => by
              apply List.map_congr_left
              intro j hj
              by_cases hji : j = i
              · subst hji; simp [h1, nowF]
              · rw [h2 j hji]
                simp only [nowF]
                by_cases h1 : j < i
                · rw [if_pos h1, if_pos (by omega)]
                · rw [if_neg h1, if_neg (by omega)]
            cases hPi : P h i with
            | false =>
              rw [hPi] at hbs
              simp only [Bool.false_eq_true, if_false, Int.add_zero] at hbs
              repeat (first|(with_reducible first|apply X2|apply X5|apply X8|apply Y2)|((with_reducible apply e_end);(simp;exact Red.rfl))|((with_reducible apply O1);rfl;(simp (disch:=omega);exact Red.rfl);exact Red.rfl;(focus (first|(simp;done)|omega|(simp;omega))))|((with_reducible apply W3);(simp (disch:=omega);exact Red.rfl)))
              refine q_again ⟨(i + 1, G4, tv3), by dsimp only; omega, hG4.congr (hN4 _ (by simp [hbs]) fun j hj => by simp [hj]), hB4⟩ (by dsimp only; omega) (.inl (by simp))
            | true =>
              rw [hPi] at hbs
              simp only [if_true] at hbs
              repeat (first|(with_reducible first|apply X2|apply X8|apply Y2|apply Y9)|((with_reducible first|apply e_end|apply d_end);(simp;exact Red.rfl))|((first|((with_reducible apply O1);rfl)|((with_reducible apply P1);rfl)|((with_reducible apply P2);rfl)|((with_reducible apply P4);rfl));(simp (disch:=omega) [hil, hil2, hcl, rd_old _ g1, a3, hpt];exact Red.rfl);exact Red.rfl;(focus (first|(simp;done)|omega|(simp;omega))))|((with_reducible apply Z9);(simp (disch:=omega) [hil, hil2, hcl, rd_old _ g1, a3, hpt];exact Red.rfl)))
              refine q_again ⟨(i + 1, _, tv3), by dsimp only; omega, (hG4.set _).congr (hN4 (fun j => if j = i then max 0 v + t.layer else if j = i then max 0 v else if j = i then v else nowF c t P h i j) (by simp [hbs]) fun j hj => by simp [hj]), hB4.set _⟩ (by dsimp only; omega) (.inl (by simp))
        · have hil2 : ¬ (i : Int) < c.bs.length := by omega
          obtain rfl : i = c.bs.length := by omega
          have hav := fun k => hG.all.l.sc (m := A.length + (G.length + k)) (by simp)
          have htv := fun k => hG.thin.l.sc (m := A.length + (G.length + k)) (by simp)
          obtain ⟨hav0, htv0⟩ : av.sc (A.length + G.length) = true ∧ tv.sc (A.length + G.length) = true := ⟨hav 0, htv 0⟩
          repeat (first|(with_reducible first|apply X1|apply X2|apply X4|apply X8|apply Y1|apply Y4|apply Y6)|((with_reducible apply e_end);(simp;exact Red.rfl))|((with_reducible apply O1);rfl;(simp (disch:=omega) [hil2];exact Red.rfl);exact Red.rfl;(focus (first|(simp;done)|omega|(simp;omega))))|((with_reducible apply W3);(simp (disch:=omega) [hil2];exact Red.rfl)))
          have hNr : avL (nowF c t P h c.bs.length) c.bs.length = avL (rowF c t P (h + 1)) c.bs.length := by
            apply List.map_congr_left
            intro j hj
            have := List.mem_range.1 hj
            simp only [nowF, rowF, if_pos this]
          have hG := hG.congr hNr
          have hTr : thI c t P h c.bs.length = thP c t P (h + 1) := rfl
          rw [hTr] at hG
          have hnl := hG.nlt
          have hsl : sliceCells (A ++ (G ++ [AObj.cells [] true])) 1 (.slice (A.length + 1) 0 c.bs.length 1 false) = some (c.bs.length, avL (rowF c t P (h + 1)) c.bs.length) := by
            have := (hG.app [AObj.cells [] true]).now
            simp only [sliceCells, if_true, Nat.mul_one, rd_new]
            unfold rd
            rw [this]
            simp [avL_length, avL_take]
          refine e_app (v := .slice (A.length + G.length) 0 0 1 true) (w := .slice (A.length + 1) 0 c.bs.length 1 false) (cs := []) (new := avL (rowF c t P (h + 1)) c.bs.length) (n := 0) (m := c.bs.length) (by simp; exact Red.rfl) (by simp; exact Red.rfl) (LAt.of (by simp [at_new]) (by simp) true) hsl (avL_scal _ _) (by omega) ?_
          intro h5 e1 e2 e3
          have hl1 : (A ++ (G ++ [AObj.cells [] true])).length = A.length + (G.length + 1) := by simp
          rw [hl1] at e1 e2 e3 ⊢
          obtain ⟨G5, rfl⟩ := ext_of (A := A) (h' := h5) (by omega) (fun k hk => by
            rw [e2 k (by omega) (fun hid => by have : A.length + G.length = k := hid; omega), List.getElem?_append_left hk])
          have hl5 : G5.length = G.length + 2 := by simp at e1; omega
          have hk5 : ∀ k, k < G.length → G5[k]? = G[k]? := fun k hk => by
            have := e2 (A.length + k) (by omega) (fun hid => by have : A.length + G.length = A.length + k := hid; omega)
            simp only [at_new] at this
            rw [this, List.getElem?_append_left hk]
          have hr5 : G5[G.length + 1]? = some (.cells (avL (rowF c t P (h + 1)) c.bs.length) true) := by
            obtain ⟨_, ⟨e, _⟩ | ⟨id, ex, e, hh⟩⟩ := e3
            · cases e
            · cases e
              rw [at_new] at hh; simpa using hh
          have hG5 := hG.keep hk5
          simp only [Nat.zero_add] at *
          have hav := fun k => hG5.all.l.sc (m := A.length + (G5.length + k)) (by simp)
          have htv := fun k => hG5.thin.l.sc (m := A.length + (G5.length + k)) (by simp)
          obtain ⟨hav0, htv0⟩ : av.sc (A.length + G5.length) = true ∧ tv.sc (A.length + G5.length) = true := ⟨hav 0, htv 0⟩
          repeat ((with_reducible apply O1);rfl;(simp (disch:=omega);exact Red.rfl);exact Red.rfl;(focus (first|(simp;done)|omega|(simp;omega))))
          refine e_appA (A := A) (G := G5 ++ [.cells [.slice (A.length + (G.length + 1)) 0 c.bs.length 1 false] true]) (cs := rwV (fun k => .slice (A.length + ids k) 0 c.bs.length 1 false) (h + 1)) (n := h + 1) (m := 1) (new := [.slice (A.length + (G.length + 1)) 0 c.bs.length 1 false]) rfl (by simp; exact Red.rfl) (by simp; exact Red.rfl) (hG5.app _).all (fun k hk => (hG5.alo k hk).1) (by simp) (by simp) (by omega) (by omega) ?_
          intro G6 v6 f3 f4 f5 f6 f7
          have hl6 : (A ++ (G5 ++ [AObj.cells [.slice (A.length + (G.length + 1)) 0 c.bs.length 1 false] true])).length = A.length + (G.length + 3) := by simp; omega
          rw [hl6] at f5 f6 f7
          have hG6 : GS A c.bs.length (rowF c t P) (h + 1 + 1) (rowF c t P (h + 1)) (thP c t P (h + 1)) 1 (fun k => if k = h + 1 then G.length + 1 else ids k) v6 tv G6 := by
            refine GS.row hG (q := G.length + 1) (by omega) ?_ (fun j hj => rfl) f3 (fun k hk => by have := f6 k hk; omega) (fun k hk hv => ?_)
            · have := f5 (A.length + (G.length + 1)) (by omega) (fun hid => by have := hG.alt hid; omega)
              rw [at_new, at_new] at this
              rw [this, List.getElem?_append_left (by omega), hr5]
            · rcases Nat.lt_or_ge k A.length with hkA | hkA
              · rw [List.getElem?_append_left hkA, List.getElem?_append_left hkA]
              · rw [f5 k (by omega) hv, List.getElem?_append_right hkA, List.getElem?_append_right hkA, List.getElem?_append_left (by omega), hk5 _ (by omega)]
          clear hav htv hav0 htv0
          have hav := fun k => hG6.all.l.sc (m := A.length + (G6.length + k)) (by simp)
          have htv := fun k => hG6.thin.l.sc (m := A.length + (G6.length + k)) (by simp)
          obtain ⟨hav0, htv0⟩ : v6.sc (A.length + G6.length) = true ∧ tv.sc (A.length + G6.length) = true := ⟨hav 0, htv 0⟩
          repeat (first|(with_reducible first|apply X2|apply X8|apply Y2)|((with_reducible apply e_end);(simp;exact Red.rfl))|((with_reducible apply O1);rfl;(simp (disch:=omega);exact Red.rfl);exact Red.rfl;(focus (first|(simp;done)|omega|(simp;omega)))))
          exact q_again ⟨(h + 1, G6, v6, tv, _), by dsimp only; omega, hG6⟩ (by dsimp only; omega) (.inl (by simp))
    · have hlt2 : ¬ (h : Int) < c.hs.length := by omega
      obtain rfl : h = c.hs.length := by omega
      have hav := fun k => hG.all.l.sc (m := A.length + (G.length + k)) (by simp)
      have htv := fun k => hG.thin.l.sc (m := A.length + (G.length + k)) (by simp)
      obtain ⟨hav0, htv0⟩ : av.sc (A.length + G.length) = true ∧ tv.sc (A.length + G.length) = true := ⟨hav 0, htv 0⟩
      repeat (first|(with_reducible first|apply X1|apply X2|apply X3|apply X4|apply X8|apply Y1|apply Y4|apply Y6)|((with_reducible apply e_end);(simp;exact Red.rfl))|((with_reducible apply O1);rfl;(simp (disch:=omega) [hlt2];exact Red.rfl);exact Red.rfl;(focus (first|(simp;done)|omega|(simp;omega))))|((with_reducible apply W3);(simp (disch:=omega) [hlt2];exact Red.rfl)))
      exact q_post (.inr rfl) (by simp; exact Red.rfl) (hG.le hA (by omega)) ⟨rfl, rfl⟩
def pmE (xs : List (Int × Int)) : List (AV × AV) := xs.map fun x => (.agg [.int .i64 x.1, .int .i64 x.2], .bool true)
def pm (xs : List (Int × Int)) : AObj := .other (.map (pmE xs) (List.range xs.length) xs.length)
def GoAt (X : Heap) (v : AV) (nb : Nat) (R : Nat → Nat → Int) (m : Nat) : Prop :=
  ∃ id, v = .slice id 0 m 1 false ∧ id < X.length ∧ ∀ k, k < m → ∃ rid, rd X id k 1 = some [.slice rid 0 nb 1 false] ∧ rid < X.length ∧ ∀ i, i < nb → rd X rid i 1 = some [.int .i64 (R k i)]
theorem GoAt.app {X : Heap} {v : AV} {nb : Nat} {R : Nat → Nat → Int} {m : Nat} (h : GoAt X v nb R m) (G : Heap) : GoAt (X ++ G) v nb R m := by
  obtain ⟨id, e, h1, h2⟩ := h
  refine ⟨id, e, by simp; omega, fun k hk => ?_⟩
  obtain ⟨rid, h3, h4, h5⟩ := h2 k hk
  exact ⟨rid, by rw [rd_old _ h1]; exact h3, by simp; omega, fun i hi => by rw [rd_old _ h4]; exact h5 i hi⟩
theorem goAt_of (H : Heap) (nb : Nat) (R : Nat → Nat → Int) (m : Nat) (T : List (Int × Int)) : GoAt (H ++ goO H.length nb R m T) (.slice H.length 0 m 1 false) nb R m := by
  refine ⟨_, rfl, by simp [goO], fun k hk => ⟨H.length + 1 + k, ?_, by simp [goO]; omega, fun i hi => ?_⟩⟩
  · unfold rd
    rw [at_new0, goO_at0]
    simp only [rwV_length]
    rw [if_pos (by omega), rwV_at _ hk]
  · rw [Nat.add_assoc, rd_new]
    exact rd_cell (goO_atj _ _ _ _ hk) hi
theorem goAt_thin (H : Heap) (nb : Nat) (R : Nat → Nat → Int) (m : Nat) (T : List (Int × Int)) : RAt (H ++ goO H.length nb R m T) 2 (if T.length = 0 then .nilslice else .slice (H.length + 1 + m) 0 T.length 2 false) (pv T) T.length := by
  refine AAt.l ?_ |>.r
  refine ⟨pv_length T, ?_⟩
  by_cases h0 : T.length = 0
  · exact .inl ⟨by rw [if_pos h0], h0⟩
  · refine .inr ⟨_, by omega, by rw [if_neg h0], ?_⟩
    rw [Nat.add_assoc, at_new, goO_att _ _ _ _ (Nat.le_refl m), Nat.sub_self]
    simp [lsO, h0]
theorem PAt.get2 {h : Heap} {v : AV} {l : List (Int × Int)} (hl : RAt h 2 v (pv l) l.length) {i : Nat} (hi : i < l.length) : ∃ id off ex, v = .slice id off l.length 2 ex ∧ rd h id (off + i * 2) 2 = some [.int .i64 l[i].1, .int .i64 l[i].2] ∧ id < h.length := by
  obtain ⟨id, off, ex, rfl, hh⟩ := RAt.slice hl (by omega)
  refine ⟨id, off, ex, rfl, ?_, rd_lt hh⟩
  exact rd_row (f := fun p : Int × Int => [AV.int .i64 p.1, AV.int .i64 p.2]) (fun _ => rfl) hh hi
theorem c_r2SamePairs (H : Heap) (a b : AV) (l : List (Int × Int)) (ha : RAt H 2 a (pv l) l.length) (hb : RAt H 2 b (pv l) l.length) (hn : (l.length : Int) < 1000000) : ACalls Try.prog F.ref02_SamePairs [a, b] H (fun v h' => v = .bool true ∧ h' = H) := by
  have hsa : ∀ k, a.sc (H.length + k) = true := fun k => RAt.sc ha (by omega)
  have hsb : ∀ k, b.sc (H.length + k) = true := fun k => RAt.sc hb (by omega)
  refine acalls_of ok_ref02_SamePairs rfl fun hcl => ?_
  unfold ac_ref02_SamePairs
  simp only [argsT, Nat.zero_add, Nat.reduceAdd]
  repeat (first|(with_reducible first|apply X1|apply X2|apply X8)|((with_reducible apply e_end);(simp;exact Red.rfl))|((with_reducible apply O1);rfl;(simp (disch:=omega);exact Red.rfl);exact Red.rfl;(focus (first|(simp;done)|omega|(simp;omega)))))
  (with_reducible apply e_op); rfl; exact RAt.len ha _ (by simp); exact Red.rfl; trivial
  repeat ((with_reducible apply O1);rfl;(simp (disch:=omega);exact Red.rfl);exact Red.rfl;(focus (first|(simp;done)|omega|(simp;omega))))
  (with_reducible apply e_op); rfl; exact RAt.len hb _ (by simp); exact Red.rfl; trivial
  repeat (first|(with_reducible first|apply X1|apply X2|apply X5|apply X6|apply X8)|((with_reducible apply e_end);(simp;exact Red.rfl))|((with_reducible apply O1);rfl;(simp (disch:=omega);exact Red.rfl);exact Red.rfl;(focus (first|(simp;done)|omega|(simp;omega))))|((with_reducible apply W3);(simp (disch:=omega);exact Red.rfl)))
  refine e_loop (ι := { i : Nat // i ≤ l.length }) (fun i => [(0, a), (1, b), (5, .int .i64 i.1)]) (fun _ => H) (fun i => l.length - i.1) ⟨0, by simp⟩ ?_ ?_
  · exact .inr <| le_id (by simp; exact ⟨hsa 0, hsb 0⟩)
  · rintro ⟨i, hi⟩
    dsimp only
    repeat (first|(with_reducible first|apply X1|apply X2)|((with_reducible apply O1);rfl;(simp (disch:=omega);exact Red.rfl);exact Red.rfl;(focus (first|(simp;done)|omega|(simp;omega)))))
    (with_reducible apply e_op); rfl; exact RAt.len ha _ (by simp); exact Red.rfl; trivial
    by_cases hlt : i < l.length
    · have hlt2 : (i : Int) < l.length := by omega
      obtain ⟨id, off, ex, rfl, hx, hid⟩ := PAt.get2 ha hlt
      obtain ⟨id', off', ex', rfl, hx', hid'⟩ := PAt.get2 hb hlt
      repeat (first|(with_reducible first|apply X1|apply X2|apply X5|apply X6|apply X8|apply Y2|apply Y9)|((with_reducible first|apply e_end|apply d_end);(simp;exact Red.rfl))|((first|((with_reducible apply O1);rfl)|((with_reducible apply P1);rfl)|((with_reducible apply P2);rfl));(simp (disch:=omega) [hlt, hlt2, hx, hx'];exact Red.rfl);exact Red.rfl;(focus (first|(simp;done)|omega|(simp;omega))))|((with_reducible apply Z9);(simp (disch:=omega) [hlt, hlt2, hx, hx'];exact Red.rfl))|((with_reducible apply W3);(simp (disch:=omega) [hlt, hlt2, hx, hx'];exact Red.rfl)))
      exact q_again ⟨i + 1, hlt⟩ (by dsimp only; omega) (.inl (by simp))
    · have hlt2 : ¬ (i : Int) < l.length := by omega
      repeat (first|(with_reducible first|apply X1|apply X2|apply X3|apply X4|apply X8|apply Y1|apply Y4|apply Y6)|((with_reducible apply e_end);(simp;exact Red.rfl))|((with_reducible apply O1);rfl;(simp (disch:=omega) [hlt2];exact Red.rfl);exact Red.rfl;(focus (first|(simp;done)|omega|(simp;omega))))|((with_reducible apply W3);(simp (disch:=omega) [hlt2];exact Red.rfl)))
      refine q_stay (.inr rfl) (by simp; exact Red.rfl) ⟨rfl, rfl⟩
end Go.Proofs
