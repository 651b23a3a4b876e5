/- Contracts: the steepest. -/
import Derived.Test.YtaplmfpbjplagabC11
namespace Go.Proofs
open Go.Abs
attribute [local simp] AOp.den AOpd.ev lk cellsOf rd_new rd_new0 rd_zero rd_succ wr_new wr_new0 wr_zero wr_succ splice fillA binA scal sliceCells List.length_append argsT AV.sc scL AObj.sc resV getAll AR.get AOp.slots opdSlots opdsSlots partSlots eqAt
set_option linter.unusedSimpArgs false
set_option linter.unusedVariables false

theorem best (f g : Nat → Int) (hg : ∀ k, 1 ≤ g k) : ∀ n, 0 < n → ∃ i, i < n ∧ ∀ k, k < n → f k * g i ≤ f i * g k
  | 0, h => absurd h (by omega)
  | 1, _ => ⟨0, by omega, fun k hk => by obtain rfl : k = 0 := by omega
                                         exact Int.le_refl _⟩
  | n + 2, _ => by
    obtain ⟨i, hi, hb⟩ := best f g hg (n + 1) (by omega)
    by_cases h : f (n + 1) * g i ≤ f i * g (n + 1)
    · refine ⟨i, by omega, fun k hk => ?_⟩
      rcases Nat.lt_or_ge k (n + 1) with h2 | h2
      · exact hb k h2
      · obtain rfl : k = n + 1 := by omega
        exact h
    · refine ⟨n + 1, by omega, fun k hk => ?_⟩
      rcases Nat.lt_or_ge k (n + 1) with h2 | h2
      · have h3 := hb k h2
        have h4 : f i * g (n + 1) ≤ f (n + 1) * g i := by omega
        have h5 := Int.mul_le_mul_of_nonneg_right h3 (show 0 ≤ g (n + 1) by have := hg (n + 1); omega)
        have h6 := Int.mul_le_mul_of_nonneg_right h4 (show 0 ≤ g k by have := hg k; omega)
        have e1 : f i * g k * g (n + 1) = f i * g (n + 1) * g k := by rw [Int.mul_assoc, Int.mul_comm (g k), ← Int.mul_assoc]
        have e2 : f k * g i * g (n + 1) = f k * g (n + 1) * g i := by rw [Int.mul_assoc, Int.mul_comm (g i), ← Int.mul_assoc]
        have e3 : f (n + 1) * g i * g k = f (n + 1) * g k * g i := by rw [Int.mul_assoc, Int.mul_comm (g i), ← Int.mul_assoc]
        have h7 : f k * g (n + 1) * g i ≤ f (n + 1) * g k * g i := by omega
        exact Int.le_of_mul_le_mul_right h7 (show 0 < g i by have := hg i; omega)
      · obtain rfl : k = n + 1 := by omega
        exact Int.le_refl _

theorem strAt_ok {l : List Str} (hv : validL l) {k : Nat} (hk : k < l.length) : (strAt l k).ok := by
  rw [strAt_eq hk]; exact valid_str hv hk

theorem ksF_ne {l : List Str} (hv : validL l) : ∃ a r, ksF l l.length = a :: r := by
  obtain ⟨i, hi, hb⟩ := best (fun k => (strAt l k).fHi) (fun k => if k < l.length then (strAt l k).lLo else 1) (fun k => by
    show 1 ≤ (if k < l.length then (strAt l k).lLo else 1)
    split
    · exact (strAt_ok hv (by assumption)).2.2.1.2.1
    · omega) l.length (by have := hv.1; omega)
  have hsel : selB l i = true := by
    simp only [selB, List.all_eq_true, List.mem_range, Bool.not_eq_true', decide_eq_false_iff_not]
    rintro k hk ⟨_, hlt⟩
    have h1 := hb k hk
    simp only [hi, hk, if_true] at h1
    have oi := strAt_ok hv hi
    have ok := strAt_ok hv hk
    simp only [Str.ok] at oi ok
    have h2 : (strAt l k).fLo * (strAt l i).lLo ≤ (strAt l k).fHi * (strAt l i).lLo := Int.mul_le_mul_of_nonneg_right (by omega) (by omega)
    have h3 : (strAt l i).fHi * (strAt l k).lLo ≤ (strAt l i).fHi * (strAt l k).lHi := Int.mul_le_mul_of_nonneg_left (by omega) (by omega)
    omega
  have hm : i ∈ ksF l l.length := by simp [ksF, hi, hsel]
  cases h : ksF l l.length with
  | nil => rw [h] at hm; simp at hm
  | cons a r => exact ⟨a, r, rfl⟩

theorem c_Steepest (H : Heap) (l : List Str) (id off : Nat) (ex : Bool) (hs : rd H id off (l.length * 9) = some (l.flatMap Str.av)) (hv : validL l) :
    ACalls Try.prog F.track_Steepest [.agg [.slice id off l.length 9 ex]] H (fun v h' => v = .tuple [.slice H.length 0 (ksF l l.length).length 1 false, .int .i64 0] ∧ h' = H ++ [.cells (avN (ksF l l.length)) true]) := by
  refine acalls_of ok_track_Steepest rfl fun hcl => ?_
  unfold ac_track_Steepest
  simp only [argsT, Nat.zero_add, Nat.reduceAdd]
  have hid := rd_lt hs
  have h12 := hv.1
  repeat (first
   | (with_reducible first | refine e_seq ?_ | refine e_ops ?_ | refine e_ret ?_ | refine e_exit ?_ | refine e_skip ?_ | refine e_block ?_ | refine e_scope ?_ | refine q_then ?_ | refine q_ret ?_ | refine q_exit ?_ | refine q_block ?_ | refine q_block_ret ?_ | refine q_block_exit ?_)
   | ((with_reducible apply q_block_other); decide)
   | (with_reducible first | refine q_again_ret ?_ | refine q_again_exit ?_ | refine q_scope ?_ | refine q_scope_ret ?_ | refine d_start ?_)
   | ((with_reducible first | apply e_end | apply d_end); (simp; exact Red.rfl))
   | ((with_reducible first | apply e_op | apply e_do); rfl; (simp (disch := omega) [wrap64]; exact Red.rfl); exact Red.rfl; (focus (first | (simp; done) | omega | (simp; omega))))
   | ((with_reducible first | apply e_yes | apply d_yes | apply e_true); (simp (disch := omega) [wrap64]; exact Red.rfl))
   | ((with_reducible first | apply e_no | apply d_no); (simp (disch := omega) [wrap64]; exact Red.rfl); decide)
   | ((with_reducible apply e_no'); (simp (disch := omega) [wrap64]; exact Red.rfl); decide)
   | ((with_reducible first | apply e_un | apply d_un | apply e_false); (simp (disch := omega) [wrap64]; exact Red.rfl))
   | ((with_reducible apply d_pure); rfl; (simp (disch := omega) [wrap64]; exact Red.rfl); exact Red.rfl; (focus (first | (simp; done) | omega | (simp; omega))))
   | ((with_reducible apply d_read); rfl; rfl; (simp (disch := omega) [wrap64]; exact Red.rfl); exact Red.rfl; (focus (first | (simp; done) | omega | (simp; omega))))
   | ((with_reducible apply d_read_); rfl; (simp (disch := omega) [wrap64]; exact Red.rfl); exact Red.rfl; (focus (first | (simp; done) | omega | (simp; omega))); (focus (simp [repast, pr, AOp.sem]; done)))
   | ((with_reducible apply d_new); rfl; (simp (disch := omega) [wrap64]; exact Red.rfl); exact Red.rfl; (focus (first | (simp; done) | omega | (simp; omega))); (focus (first | (simp; done) | (simp; omega))))
   | ((with_reducible first | apply d_do | apply d_set); rfl; rfl; rfl; (simp (disch := omega) [wrap64]; exact Red.rfl); exact Red.rfl; (focus (first | (simp; done) | omega | (simp; omega))); (focus (first | (simp; done) | (simp; omega))); (focus (first | (simp; done) | (simp; omega)))))
  (with_reducible apply e_call); (simp; exact Red.rfl); exact c_Check _ l id off ex (by rw [rd_old _ hid]; exact hs) (by omega)
  rintro _ _ ⟨rfl, e, rfl, he⟩
  obtain rfl : e = 0 := by
    rcases he with h | h
    · exact h.2
    · exact absurd hv h.1
  repeat (first
   | (with_reducible first | refine e_seq ?_ | refine e_ops ?_ | refine e_ret ?_ | refine e_exit ?_ | refine e_skip ?_ | refine e_block ?_ | refine e_scope ?_ | refine q_then ?_ | refine q_ret ?_ | refine q_exit ?_ | refine q_block ?_ | refine q_block_ret ?_ | refine q_block_exit ?_)
   | ((with_reducible apply q_block_other); decide)
   | (with_reducible first | refine q_again_ret ?_ | refine q_again_exit ?_ | refine q_scope ?_ | refine q_scope_ret ?_ | refine d_start ?_)
   | ((with_reducible first | apply e_end | apply d_end); (simp; exact Red.rfl))
   | ((with_reducible first | apply e_op | apply e_do); rfl; (simp (disch := omega) [wrap64]; exact Red.rfl); exact Red.rfl; (focus (first | (simp; done) | omega | (simp; omega))))
   | ((with_reducible first | apply e_yes | apply d_yes | apply e_true); (simp (disch := omega) [wrap64]; exact Red.rfl))
   | ((with_reducible first | apply e_no | apply d_no); (simp (disch := omega) [wrap64]; exact Red.rfl); decide)
   | ((with_reducible apply e_no'); (simp (disch := omega) [wrap64]; exact Red.rfl); decide)
   | ((with_reducible first | apply e_un | apply d_un | apply e_false); (simp (disch := omega) [wrap64]; exact Red.rfl))
   | ((with_reducible apply d_pure); rfl; (simp (disch := omega) [wrap64]; exact Red.rfl); exact Red.rfl; (focus (first | (simp; done) | omega | (simp; omega))))
   | ((with_reducible apply d_read); rfl; rfl; (simp (disch := omega) [wrap64]; exact Red.rfl); exact Red.rfl; (focus (first | (simp; done) | omega | (simp; omega))))
   | ((with_reducible apply d_read_); rfl; (simp (disch := omega) [wrap64]; exact Red.rfl); exact Red.rfl; (focus (first | (simp; done) | omega | (simp; omega))); (focus (simp [repast, pr, AOp.sem]; done)))
   | ((with_reducible apply d_new); rfl; (simp (disch := omega) [wrap64]; exact Red.rfl); exact Red.rfl; (focus (first | (simp; done) | omega | (simp; omega))); (focus (first | (simp; done) | (simp; omega))))
   | ((with_reducible first | apply d_do | apply d_set); rfl; rfl; rfl; (simp (disch := omega) [wrap64]; exact Red.rfl); exact Red.rfl; (focus (first | (simp; done) | omega | (simp; omega))); (focus (first | (simp; done) | (simp; omega))); (focus (first | (simp; done) | (simp; omega)))))
  (with_reducible apply e_call); (simp; exact Red.rfl); exact c_pick _ l id off H.length ex (by rw [rd_old _ hid]; exact hs) hv (by simp)
  obtain ⟨a, r, hks⟩ := ksF_ne hv
  rw [hks]
  simp only [pkV_cons, pkH_cons]
  rintro _ _ ⟨rfl, rfl⟩
  repeat (first
   | (with_reducible first | refine e_seq ?_ | refine e_ops ?_ | refine e_ret ?_ | refine e_exit ?_ | refine e_skip ?_ | refine e_block ?_ | refine e_scope ?_ | refine q_then ?_ | refine q_ret ?_ | refine q_exit ?_ | refine q_block ?_ | refine q_block_ret ?_ | refine q_block_exit ?_)
   | ((with_reducible apply q_block_other); decide)
   | (with_reducible first | refine q_again_ret ?_ | refine q_again_exit ?_ | refine q_scope ?_ | refine q_scope_ret ?_ | refine d_start ?_)
   | ((with_reducible first | apply e_end | apply d_end); (simp; exact Red.rfl))
   | ((with_reducible first | apply e_op | apply e_do); rfl; (simp (disch := omega) [wrap64]; exact Red.rfl); exact Red.rfl; (focus (first | (simp; done) | omega | (simp; omega))))
   | ((with_reducible first | apply e_yes | apply d_yes | apply e_true); (simp (disch := omega) [wrap64]; exact Red.rfl))
   | ((with_reducible first | apply e_no | apply d_no); (simp (disch := omega) [wrap64]; exact Red.rfl); decide)
   | ((with_reducible apply e_no'); (simp (disch := omega) [wrap64]; exact Red.rfl); decide)
   | ((with_reducible first | apply e_un | apply d_un | apply e_false); (simp (disch := omega) [wrap64]; exact Red.rfl))
   | ((with_reducible apply d_pure); rfl; (simp (disch := omega) [wrap64]; exact Red.rfl); exact Red.rfl; (focus (first | (simp; done) | omega | (simp; omega))))
   | ((with_reducible apply d_read); rfl; rfl; (simp (disch := omega) [wrap64]; exact Red.rfl); exact Red.rfl; (focus (first | (simp; done) | omega | (simp; omega))))
   | ((with_reducible apply d_read_); rfl; (simp (disch := omega) [wrap64]; exact Red.rfl); exact Red.rfl; (focus (first | (simp; done) | omega | (simp; omega))); (focus (simp [repast, pr, AOp.sem]; done)))
   | ((with_reducible apply d_new); rfl; (simp (disch := omega) [wrap64]; exact Red.rfl); exact Red.rfl; (focus (first | (simp; done) | omega | (simp; omega))); (focus (first | (simp; done) | (simp; omega))))
   | ((with_reducible first | apply d_do | apply d_set); rfl; rfl; rfl; (simp (disch := omega) [wrap64]; exact Red.rfl); exact Red.rfl; (focus (first | (simp; done) | omega | (simp; omega))); (focus (first | (simp; done) | (simp; omega))); (focus (first | (simp; done) | (simp; omega)))))
  refine q_post (v' := .tuple [.slice H.length 0 (r.length + 1) 1 false, .int .i64 0]) (.inr rfl) (by simp; exact Red.rfl) (le_keep1 1 rfl (by simp [sh, AV.ren, renL])) ⟨rfl, rfl⟩
def mpE (xs : List Nat) : List (AV × AV) := xs.map fun k : Nat => (.int .i64 (k : Int), .bool true)
def mp (xs : List Nat) : AObj := .other (.map (mpE xs) (List.range xs.length) xs.length)
theorem keyEq_int (a b : Nat) : keyEq (.one .int) (.int .i64 (a : Int)) (.int .i64 (b : Int)) = some (decide (a = b)) := by
  have e : ((a : Int) = b) = (a = b) := propext Int.ofNat_inj
  simp only [keyEq, eqCell, if_true, e]
theorem findA_not (k : Nat) : ∀ xs : List Nat, ¬ k ∈ xs → findA (.one .int) (.int .i64 (k : Int)) (mpE xs) = some none
  | [], _ => rfl
  | a :: r, h => by
    simp only [List.mem_cons, not_or] at h
    have := findA_not k r h.2
    simp only [mpE, List.map_cons, findA, keyEq_int] at this ⊢
    rw [decide_eq_false h.1]
    simp only [this]
theorem findA_mem (k : Nat) : ∀ xs : List Nat, k ∈ xs → ∃ (n : Nat) (v : AV), findA (.one .int) (.int .i64 (k : Int)) (mpE xs) = some (some n) ∧ (mpE xs)[n]? = some (v, .bool true)
  | [], h => by simp at h
  | a :: r, h => by
    by_cases e : k = a
    · subst e
      refine ⟨0, .int .i64 (k : Int), ?_, rfl⟩
      simp [mpE, findA, keyEq_int]
    · obtain ⟨n, v, h1, h2⟩ := findA_mem k r (by simpa [e] using h)
      refine ⟨n + 1, v, ?_, by simpa [mpE] using h2⟩
      simp only [mpE, List.map_cons, findA, keyEq_int] at h1 ⊢
      rw [decide_eq_false e]
      simp only [h1]

theorem den_get {m i : AOpd} {ev : AOpd → AV} {h : Heap} {id k : Nat} {xs : List Nat} (hm : ev m = .map id) (hi : ev i = .int .i64 (k : Int)) (hh : h[id]? = some (mp xs)) :
    (AOp.mapGet false (.bool false) (.one .int) m i).den ev h = .ok True (.bool (decide (k ∈ xs))) h := by
  simp only [AOp.den, AOp.fx, hm, hi, keyEq_int, mapAt, hh, mp, Option.isSome_some, if_true]
  by_cases hk : k ∈ xs
  · obtain ⟨n, v, h1, h2⟩ := findA_mem k xs hk
    simp [h1, h2, hk]
  · simp [findA_not k xs hk, hk]
theorem den_put {m i : AOpd} {ev : AOpd → AV} {h : Heap} {id k : Nat} {xs : List Nat} (hm : ev m = .map id) (hi : ev i = .int .i64 (k : Int)) (hh : h[id]? = some (mp xs)) (hk : ¬ k ∈ xs) (hc : ev (.c (.bool true)) = .bool true) :
    (AOp.mapPut (.one .int) m i (.c (.bool true))).den ev h = .ok True (.tuple []) (h.set id (mp (xs ++ [k]))) := by
  simp only [AOp.den, AOp.fx, hm, hi, keyEq_int, hh, mp, Option.isSome_some, if_true, findA_not k xs hk]
  simp [mpE, List.range_succ, hc]
theorem mp_sc (m : Nat) (xs : List Nat) : (mp xs).sc m = true := by
  simp [mp, AObj.sc, OObj.sc, mpE, AV.sc]
theorem mp_ren (ρ : Nat → Nat) (xs : List Nat) : (mp xs).ren ρ = mp xs := by
  simp [mp, AObj.ren, OObj.ren, mpE, AV.ren]
end Go.Proofs
