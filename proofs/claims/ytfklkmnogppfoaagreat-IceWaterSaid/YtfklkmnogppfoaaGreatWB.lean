/- Several texts as one. -/
import Derived.Test.YtfklkmnogppfoaaGreatRA
import Derived.Test.YtfklkmnogppfoaaGreatDD
/- Ice: how often each stretch is sprayed, and the water by it. -/
namespace Go.Proofs
open Go.Abs
attribute [local simp] AOp.den AOpd.ev lk cellsOf rd_new rd_new0 rd_zero rd_succ wr_new wr_new0 wr_zero wr_succ splice fillA binA scal sliceCells List.length_append argsT AV.sc scL AObj.sc resV getAll AR.get AOp.slots opdSlots opdsSlots partSlots eqAt at_new0 at_new set_new0 set_new wrap64
set_option linter.unusedSimpArgs false
set_option linter.unusedVariables false
def cK (l : List Int) : Nat → Nat → Int
  | 0, _ => 0
  | k + 1, s => cK l k s + if l.getD k 0 = (s : Int) then 1 else 0
def cP (L : Nat → List Int) : Nat → Nat → Int
  | 0, _ => 0
  | h + 1, s => cP L h s + cK (L h) (L h).length s
theorem cK_bd (l : List Int) (s : Nat) : ∀ k, 0 ≤ cK l k s ∧ cK l k s ≤ k
  | 0 => by simp [cK]
  | k + 1 => by
    have := cK_bd l s k
    simp only [cK]
    split <;> omega
theorem cP_bd {c : Cv} {n : Nat} (hc : c.ok n) {L : Nat → List Int} (hL : okPl c L) (s : Nat) : ∀ {h : Nat}, h ≤ c.hs.length → 0 ≤ cP L h s ∧ cP L h s ≤ 12 * h
  | 0, _ => by simp [cP]
  | h + 1, hh => by
    have ih := cP_bd hc hL s (h := h) (by omega)
    have hl := (hL h (by omega)).1
    have h2 := hc.hok h (by omega)
    rw [← Cv.h_eq (by omega)] at h2
    have h3 := h2.2.2
    simp only [handsF] at hl
    have h5 : ((L h).length : Int) ≤ 12 := by split at hl <;> omega
    have := cK_bd (L h) s (L h).length
    simp only [cP]
    omega
def smF (f : Nat → Int) : Nat → Int
  | 0 => 0
  | n + 1 => smF f n + f n
theorem smF_add (f g : Nat → Int) : ∀ n, smF (fun s => f s + g s) n = smF f n + smF g n
  | 0 => rfl
  | n + 1 => by simp only [smF, smF_add f g n]; omega
theorem smF_one (r : Int) (g : Nat → Int) (a : Nat) : ∀ n, smF (fun s => (if (a : Int) = (s : Int) then 1 else 0) * r * g s) n = if a < n then r * g a else 0
  | 0 => by simp [smF]
  | n + 1 => by
    simp only [smF, smF_one r g a n]
    by_cases h : a = n
    · subst h; simp
    · have : ¬ (a : Int) = (n : Int) := by omega
      rw [if_neg this]
      by_cases h2 : a < n
      · rw [if_pos h2, if_pos (by omega)]; simp
      · rw [if_neg h2, if_neg (by omega)]; simp
theorem smF_zero : ∀ n, smF (fun _ => 0) n = 0
  | 0 => rfl
  | n + 1 => by simp only [smF, smF_zero n]; rfl
theorem wa_cK {r : Int} {g : Nat → Int} {l : List Int} {n : Nat} (hl : okL n l) : ∀ {k : Nat}, k ≤ l.length → waL r g l k = smF (fun s => cK l k s * r * g s) n
  | 0, _ => by simp only [waL, cK, Int.zero_mul, smF_zero]
  | k + 1, hk => by
    have ih := wa_cK (r := r) (g := g) hl (k := k) (by omega)
    have ho := (hl k (by omega)).1
    have e : l.getD k 0 = l[k] := by simp [List.getD_eq_getElem?_getD, List.getElem?_eq_getElem (show k < l.length by omega)]
    have e2 : ((l[k].toNat : Nat) : Int) = l[k] := by omega
    have e3 := smF_one r g l[k].toNat n
    rw [if_pos (by omega), e2] at e3
    simp only [waL, cK, e, Int.add_mul, smF_add, ih, e3]
theorem wa_cP {r : Int} {g : Nat → Int} {c : Cv} {L : Nat → List Int} (hL : okPl c L) : ∀ {h : Nat}, h ≤ c.hs.length → waP r g L h = smF (fun s => cP L h s * r * g s) c.bs.length
  | 0, _ => by simp only [waP, cP, Int.zero_mul, smF_zero]
  | h + 1, hh => by
    have ih := wa_cP (r := r) (g := g) hL (h := h) (by omega)
    have := wa_cK (r := r) (g := g) (hL h (by omega)).2 (Nat.le_refl _)
    simp only [waP, cP, Int.add_mul, smF_add, ih, this]
theorem term_bd {n r x : Int} (h0 : 0 ≤ n) (h1 : n ≤ 96) (h2 : 0 ≤ r) (h3 : r ≤ 100) (h4 : 0 ≤ x) (h5 : x ≤ 30000) : (0 ≤ n * r ∧ n * r ≤ 9600) ∧ 0 ≤ n * r * x ∧ n * r * x ≤ 288000000 := by
  have a := mul_bd (A := 96) (B := 100) h0 h1 h2 h3
  have b := mul_bd (A := 9600) (B := 30000) a.1 (by omega) h4 h5
  omega
theorem smF_bd {f : Nat → Int} : ∀ {n : Nat}, (∀ s, s < n → 0 ≤ f s ∧ f s ≤ 288000000) → 0 ≤ smF f n ∧ smF f n ≤ 288000000 * n
  | 0, _ => by simp [smF]
  | n + 1, h => by
    have := smF_bd (f := f) (n := n) fun s hs => h s (by omega)
    have := h n (by omega)
    simp only [smF]; omega
theorem smF_le {f g : Nat → Int} : ∀ {n : Nat}, (∀ s, s < n → f s ≤ g s) → smF f n ≤ smF g n
  | 0, _ => Int.le_refl _
  | n + 1, h => by
    have := smF_le (f := f) (g := g) (n := n) fun s hs => h s (by omega)
    have := h n (by omega)
    simp only [smF]; omega
theorem avL_put {f g : Nat → Int} {n i : Nat} {x : Int} (hi : i < n) (hg : ∀ j, g j = if j = i then x else f j) : Go.Abs.splice (avL f n) i [.int .i64 x] = avL g n := by
  apply List.ext_getElem
  · simp [Go.Abs.splice, avL_length]; omega
  · intro k h1 h2
    simp only [Go.Abs.splice, List.length_cons, List.length_nil]
    rw [avL_length] at h2
    have e : ∀ (f : Nat → Int) (h : k < (avL f n).length), (avL f n)[k] = .int .i64 (f k) := fun f h => by simp [avL]
    rw [e g]
    rcases Nat.lt_trichotomy k i with h3 | h3 | h3
    · rw [List.getElem_append_left (by simp [avL_length]; omega), List.getElem_append_left (by simp [avL_length]; omega), List.getElem_take, e f, hg, if_neg (by omega)]
    · subst h3
      rw [List.getElem_append_left (by simp [avL_length]; omega), List.getElem_append_right (by simp [avL_length]; omega)]
      simp [avL_length, hg]
    · rw [List.getElem_append_right (by simp [avL_length]; omega), List.getElem_drop]
      have : i + 1 + (k - ((avL f n).take i ++ [AV.int .i64 x]).length) = k := by simp [avL_length]; omega
      simp only [this, e f, hg, if_neg (show ¬ k = i by omega)]
theorem avL_one {f : Nat → Int} {n i : Nat} (hi : i < n) : ((avL f n).drop i).take 1 = [.int .i64 (f i)] := by
  have e : (avL f n).drop i = .int .i64 (f i) :: (avL f n).drop (i + 1) := by
    rw [List.drop_eq_getElem_cons (by rw [avL_length]; omega)]; congr 1; simp [avL]
  rw [e]; rfl
theorem avL_zero (n : Nat) : List.replicate n (AV.int .i64 0) = avL (fun _ => 0) n := by
  induction n with
  | zero => rfl
  | succ n ih => rw [List.replicate_succ', ih, avL_succ]
end Go.Proofs
/- Ice: how often each stretch is sprayed, counted. -/
namespace Go.Proofs
open Go.Abs
attribute [local simp] AOp.den AOpd.ev lk cellsOf rd_new rd_new0 rd_zero rd_succ wr_new wr_new0 wr_zero wr_succ splice fillA binA scal sliceCells List.length_append argsT AV.sc scL AObj.sc resV getAll AR.get AOp.slots opdSlots opdsSlots partSlots eqAt at_new0 at_new set_new0 set_new wrap64
set_option linter.unusedSimpArgs false
set_option linter.unusedVariables false
set_option maxHeartbeats 1000000 in
theorem c_count (H : Heap) (l : List Str) (c : Cv) (p : Plc) (hp : CvAt H c p) (hc : c.ok l.length) (hv : validL l) (pl : AV) (L : Nat → List Int) (hpl : PlAt H pl c.hs.length L) (hL : okPl c L) :
    ACalls Tryz.prog F.law02_count [.agg (c.av p), pl] H (fun v h' => v = .slice H.length 0 c.bs.length 1 true ∧ h' = H ++ [.cells (avL (cP L c.hs.length) c.bs.length) true]) := by
  have hp1 := hp.t
  have hp2 := rd_lt hp.b
  have hp3 := rd_lt hp.h
  have h12 := hv.1
  have hlen := hc.len
  have h8 := hc.hours
  have hLl := okPl_len hc hL
  obtain ⟨pid, poff, pex, rfl, hpid, hprow⟩ := hpl.get
  simp only [Cv.av] at *
  refine acalls_of ok_law02_count rfl fun hcl => ?_
  unfold ac_law02_count
  simp only [argsT, Nat.zero_add, Nat.reduceAdd]
  repeat (first|(with_reducible first|apply X1|apply X2|apply X6|apply X8)|((with_reducible apply e_end);(simp;exact Red.rfl))|((with_reducible apply O1);rfl;(simp (disch:=omega);exact Red.rfl);exact Red.rfl;(focus (first|(simp;done)|omega|(simp;omega)))))
  rw [avL_zero]
  refine e_loop (ι := { h : Nat // h ≤ c.hs.length }) (fun h => [(5, .slice (H.length + 1) 0 c.bs.length 1 true), (14, .slice pid poff c.hs.length 1 pex), (15, .int .i64 c.hs.length), (16, .int .i64 h.1)])
    (fun h => H ++ [.cells [.slice p.tid p.toff p.tn 9 p.tex, .slice p.bid p.boff c.bs.length 3 p.bex, .slice p.hid p.hoff c.hs.length 5 p.hex, .int .i64 c.w1, .int .i64 c.w2, .int .i64 c.y1, .int .i64 c.y2, .int .i64 c.rate, .int .i64 c.lim, .int .i64 c.base] true, .cells (avL (cP L h.1) c.bs.length) true]) (fun h => c.hs.length - h.1) ⟨0, by simp⟩ ?_ ?_
  · exact .inl rfl
  · rintro ⟨h, hh⟩
    dsimp only
    by_cases hlt : h < c.hs.length
    · have hlt2 : (h : Int) < c.hs.length := by omega
      obtain ⟨x, hx, hxi⟩ := hprow h hlt
      have hxs := hxi.sc (Nat.le_refl _)
      have hxs2 : ∀ k, x.sc (H.length + k) = true := fun k => hxi.sc (by omega)
      have hLh := hL h hlt
      have hLn := hLl h hlt
      repeat (first|(with_reducible first|apply X1|apply X2|apply X5|apply X6|apply X8)|((with_reducible apply e_end);(simp;exact Red.rfl))|((with_reducible apply O1);rfl;(simp (disch:=omega) [hlt, hlt2, rd_old _ hpid, hx];exact Red.rfl);exact Red.rfl;(focus (first|(simp;done)|omega|(simp;omega))))|((with_reducible apply Z9);(simp (disch:=omega) [hlt, hlt2, rd_old _ hpid, hx];exact Red.rfl)))
      (with_reducible apply e_op); rfl; exact RAt.len hxi _ (by simp); exact Red.rfl; trivial
      repeat (first|(with_reducible first|apply X6|apply X8)|((with_reducible apply e_end);(simp;exact Red.rfl))|((with_reducible apply O1);rfl;(simp (disch:=omega);exact Red.rfl);exact Red.rfl;(focus (first|(simp;done)|omega|(simp;omega)))))
      refine e_loop (ι := { k : Nat // k ≤ (L h).length }) (fun k => [(5, .slice (H.length + 1) 0 c.bs.length 1 true), (14, .slice pid poff c.hs.length 1 pex), (15, .int .i64 c.hs.length), (16, .int .i64 h), (20, x), (21, .int .i64 (L h).length), (22, .int .i64 k.1)])
        (fun k => H ++ [.cells [.slice p.tid p.toff p.tn 9 p.tex, .slice p.bid p.boff c.bs.length 3 p.bex, .slice p.hid p.hoff c.hs.length 5 p.hex, .int .i64 c.w1, .int .i64 c.w2, .int .i64 c.y1, .int .i64 c.y2, .int .i64 c.rate, .int .i64 c.lim, .int .i64 c.base] true, .cells (avL (fun s => cP L h s + cK (L h) k.1 s) c.bs.length) true]) (fun k => (L h).length - k.1) ⟨0, by simp⟩ ?_ ?_
      · have e : avL (fun s => cP L h s + cK (L h) 0 s) c.bs.length = avL (cP L h) c.bs.length := by
          apply List.map_congr_left
          intro s _
          simp [cK]
        dsimp only
        rw [e]
        exact .inl rfl
      · rintro ⟨k, hk⟩
        dsimp only
        by_cases hkl : k < (L h).length
        · have hkl2 : (k : Int) < (L h).length := by omega
          obtain ⟨xid, xoff, xex, rfl, hxr, hxl⟩ := IAt.get hxi hkl
          have ho := (hLh.2 k hkl).1
          obtain ⟨a, ha⟩ : ∃ a : Nat, (L h)[k] = a := ⟨(L h)[k].toNat, by omega⟩
          have hal : a < c.bs.length := by omega
          have hge : 0 ≤ (a : Int) := by omega
          have hal2 : (a : Int) < c.bs.length := by omega
          rw [ha] at hxr
          have h1 := avL_one (f := fun s => cP L h s + cK (L h) k s) hal
          have h2 := avL_put (f := fun s => cP L h s + cK (L h) k s) (g := fun s => cP L h s + cK (L h) (k + 1) s) (x := cP L h a + cK (L h) k a + 1) hal (fun j => by
            have e : (L h).getD k 0 = (a : Int) := by rw [List.getD_eq_getElem?_getD, List.getElem?_eq_getElem hkl]; simpa using ha
            simp only [cK, e]
            by_cases hj : j = a
            · subst hj; simp; omega
            · have : ¬ (a : Int) = (j : Int) := by omega
              rw [if_neg this, if_neg hj, Int.add_zero])
          have b1 := cP_bd hc hL a (h := h) hh
          have b2 := cK_bd (L h) a k
          have hl1 : a + 1 ≤ c.bs.length := hal
          repeat (first|(with_reducible first|apply X1|apply X2|apply X5|apply X6|apply X8|apply Y2)|((with_reducible apply e_end);(simp;exact Red.rfl))|((first|((with_reducible apply O1);rfl)|((with_reducible apply O2);rfl));(simp (disch:=omega) [hkl, hkl2, rd_old _ hxl, hxr, hge, hal, hal2, avL_length, h1, hl1, -splice, h2];exact Red.rfl);exact Red.rfl;(focus (first|(simp;done)|omega|(simp;omega))))|((with_reducible first|apply Z7|apply Z9);(simp (disch:=omega) [hkl, hkl2, rd_old _ hxl, hxr, hge, hal, hal2, avL_length, h1, hl1, -splice, h2];exact Red.rfl)))
          exact q_again ⟨k + 1, hkl⟩ (by dsimp only; omega) (.inl (by simp))
        · have hkl2 : ¬ (k : Int) < (L h).length := by omega
          obtain rfl : k = (L h).length := by omega
          repeat (first|(with_reducible first|apply X1|apply X2|apply X4|apply X8|apply Y1|apply Y2|apply Y4|apply Y6)|((with_reducible apply e_end);(simp;exact Red.rfl))|((with_reducible apply O1);rfl;(simp (disch:=omega) [hkl2];exact Red.rfl);exact Red.rfl;(focus (first|(simp;done)|omega|(simp;omega))))|((with_reducible apply W3);(simp (disch:=omega) [hkl2];exact Red.rfl)))
          exact q_again ⟨h + 1, hlt⟩ (by dsimp only; omega) (.inl (by simp [cP]))
    · have hlt2 : ¬ (h : Int) < c.hs.length := by omega
      obtain rfl : h = c.hs.length := by omega
      repeat (first|(with_reducible first|apply X1|apply X2|apply X3|apply X4|apply X8|apply Y1|apply Y4|apply Y6)|((with_reducible apply e_end);(simp;exact Red.rfl))|((with_reducible apply O1);rfl;(simp (disch:=omega) [hlt2];exact Red.rfl);exact Red.rfl;(focus (first|(simp;done)|omega|(simp;omega))))|((with_reducible apply W3);(simp (disch:=omega) [hlt2];exact Red.rfl)))
      exact q_post (v' := .slice H.length 0 c.bs.length 1 true) (.inr rfl) (by simp; exact Red.rfl) (le_plain [1] _ (by simp) rfl (by simp; exact .inr ⟨_, _, rfl, avL_scal _ _, fun m => avL_sc _ _ m, fun ρ => avL_ren ρ _ _⟩) (by simp [sh, AV.ren])) ⟨rfl, rfl⟩
end Go.Proofs
