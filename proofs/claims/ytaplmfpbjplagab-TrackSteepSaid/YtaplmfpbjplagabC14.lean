/- The law TrackSteep. -/
import Derived.Test.YtaplmfpbjplagabC12
import Derived.Test.YtaplmfpbjplagabRunTrackAlive
namespace Go.Proofs
open Go.Abs
attribute [local simp] AOp.den AOpd.ev lk cellsOf rd_new rd_new0 rd_zero rd_succ wr_new wr_new0 wr_zero wr_succ splice fillA binA scal sliceCells List.length_append argsT AV.sc scL AObj.sc resV getAll AR.get AOp.slots opdSlots opdsSlots partSlots eqAt
set_option linter.unusedSimpArgs false
set_option linter.unusedVariables false

theorem range_pairwise (n : Nat) : (List.range n).Pairwise (· < ·) := List.pairwise_lt_range
theorem ksF_sorted (l : List Str) (n : Nat) : (ksF l n).Pairwise (· < ·) := List.Pairwise.filter _ List.pairwise_lt_range
theorem ksF_lt {l : List Str} {n k : Nat} (h : k ∈ ksF l n) : k < n := by
  simp only [ksF, List.mem_filter, List.mem_range] at h; exact h.1
theorem avN_get {xs : List Nat} {j : Nat} (hj : j < xs.length) : List.take 1 (List.drop j (avN xs)) = [.int .i64 ((xs[j] : Nat) : Int)] := by
  rw [avN, ← List.map_drop, List.drop_eq_getElem_cons hj, List.map_cons, List.take_succ_cons, List.take_zero]

theorem avL_get {f : Nat → Int} {n j : Nat} (hj : j < n) : List.take 1 (List.drop j (avL f n)) = [.int .i64 (f j)] := by
  have hl : j < (List.range n).length := by simpa using hj
  rw [avL, ← List.map_drop, List.drop_eq_getElem_cons hl, List.map_cons, List.take_succ_cons, List.take_zero]
  simp
theorem longF_in {l : List Str} (hv : validL l) (us : List Int) {i : Nat} (hi : i < l.length) : (strAt l i).lLo ≤ longF us l i ∧ longF us l i ≤ (strAt l i).lHi ∧ 1 ≤ (strAt l i).lLo ∧ (strAt l i).lHi ≤ 30000 := by
  have ho := strAt_ok hv hi
  simp only [Str.ok] at ho
  have := someF_in (b := chooseF us (2 * i)) ho.2.2.1.1
  unfold longF
  omega
theorem fallF_in {l : List Str} (hv : validL l) (us : List Int) {i : Nat} (hi : i < l.length) : (strAt l i).fLo ≤ fallF us l i ∧ fallF us l i ≤ (strAt l i).fHi ∧ 0 ≤ (strAt l i).fLo ∧ (strAt l i).fHi ≤ 5000 := by
  have ho := strAt_ok hv hi
  simp only [Str.ok] at ho
  have := someF_in (b := chooseF us (2 * i + 1)) ho.2.2.2.1.1
  unfold fallF
  omega
theorem slope_in {s : Str} {F L : Int} (h1 : s.lLo ≤ L) (h2 : L ≤ s.lHi) (h3 : 1 ≤ s.lLo) (h4 : s.fLo ≤ F) (h5 : F ≤ s.fHi) (h6 : 0 ≤ s.fLo) :
    0 ≤ slopeLo s ∧ slopeLo s * L ≤ F * 1000 ∧ 0 ≤ slopeLo s * L ∧ F * 1000 ≤ slopeHi s * L ∧ slopeHi s ≤ s.fHi * 1000 + s.lLo - 1 := by
  have a0 : 0 ≤ slopeLo s := Int.ediv_nonneg (by omega) (by omega)
  have a1 : slopeLo s * s.lHi ≤ s.fLo * 1000 := Int.ediv_mul_le _ (by omega)
  have a2 : slopeLo s * L ≤ slopeLo s * s.lHi := Int.mul_le_mul_of_nonneg_left h2 a0
  have b1 : s.fHi * 1000 + s.lLo - 1 < (slopeHi s + 1) * s.lLo := Int.lt_ediv_add_one_mul_self _ (by omega)
  have b2 : (slopeHi s + 1) * s.lLo = slopeHi s * s.lLo + s.lLo := by rw [Int.add_mul, Int.one_mul]
  have b0 : 0 ≤ slopeHi s := Int.ediv_nonneg (by omega) (by omega)
  have b3 : slopeHi s * s.lLo ≤ slopeHi s * L := Int.mul_le_mul_of_nonneg_left h1 b0
  have c0 : 0 ≤ slopeLo s * L := Int.mul_nonneg a0 (by omega)
  have d := Int.ediv_le_self (a := s.fHi * 1000 + s.lLo - 1) s.lLo (by omega)
  refine ⟨a0, by omega, c0, by omega, d⟩
theorem most_sel {l : List Str} (hv : validL l) (us : List Int) {i : Nat} (hi : i < l.length) (h : ∀ j, j < l.length → fallF us l j * longF us l i ≤ fallF us l i * longF us l j) : selB l i = true := by
  simp only [selB, List.all_eq_true, List.mem_range, Bool.not_eq_true', decide_eq_false_iff_not]
  rintro k hk ⟨_, hlt⟩
  have h1 := h k hk
  have Li := longF_in hv us hi
  have Lk := longF_in hv us hk
  have Fi := fallF_in hv us hi
  have Fk := fallF_in hv us hk
  have e1 : (strAt l k).fLo * (strAt l i).lLo ≤ fallF us l k * longF us l i := Int.mul_le_mul (by omega) (by omega) (by omega) (by omega)
  have e2 : fallF us l i * longF us l k ≤ (strAt l i).fHi * (strAt l k).lHi := Int.mul_le_mul (by omega) (by omega) (by omega) (by omega)
  omega

theorem sc5 {id off n m a b : Nat} {ex : Bool} {f g : Nat → Int} {ks xs : List Nat} (hid : id < m) : ∀ o ∈ [AObj.cells [.slice id off n 9 ex] true, .cells (avN ks) true, .cells (avL f a) true, .cells (avL g b) true, mp xs], o.sc m = true := by
  intro o ho
  simp only [List.mem_cons, List.not_mem_nil, or_false] at ho
  rcases ho with rfl | rfl | rfl | rfl | rfl
  · simp [hid]
  · exact avN_sc _ _
  · exact avL_sc _ _ _
  · exact avL_sc _ _ _
  · exact mp_sc _ _

theorem c_alive (H : Heap) : ACalls Try.prog F.law01_alive [] H (fun v h => v = .bool true ∧ h = H) := Try.true15 H

set_option maxHeartbeats 4000000 in
theorem c_law (H : Heap) (l : List Str) (us : List Int) (id off bid boff : Nat) (ex bex : Bool) (hs : rd H id off (l.length * 9) = some (l.flatMap Str.av))
    (hb : rd H bid boff us.length = some (us.map (.int .u32))) (hu : ∀ u ∈ us, 0 ≤ u ∧ u ≤ 4294967295) (hn : (us.length : Int) ≤ 9223372036854775807) :
    ACalls Try.prog F.law01_TrackSteep [.agg [.slice id off l.length 9 ex], .slice bid boff us.length 1 bex] H (fun v _ => v = .bool true) := by
  refine acalls_of ok_law01_TrackSteep rfl fun hcl => ?_
  unfold ac_law01_TrackSteep
  simp only [argsT, Nat.zero_add, Nat.reduceAdd]
  have hid := rd_lt hs
  have hbid := rd_lt hb
  repeat (first
   | (with_reducible first | refine e_seq ?_ | refine e_ops ?_ | refine e_ret ?_ | refine e_exit ?_ | refine e_skip ?_ | refine e_block ?_ | refine e_scope ?_ | refine q_then ?_ | refine q_ret ?_ | refine q_exit ?_ | refine q_block ?_ | refine q_block_ret ?_ | refine q_block_exit ?_)
   | ((with_reducible apply q_block_other); decide)
   | (with_reducible first | refine q_again_ret ?_ | refine q_again_exit ?_ | refine q_scope ?_ | refine q_scope_ret ?_ | refine d_start ?_)
   | ((with_reducible first | apply e_end | apply d_end); (simp; exact Red.rfl))
   | ((with_reducible first | apply e_op | apply e_do); rfl; (simp (disch := omega) [wrap64]; exact Red.rfl); exact Red.rfl; (focus (first | (simp; done) | omega | (simp; omega))))
   | ((with_reducible first | apply e_yes | apply d_yes | apply e_true); (simp (disch := omega) [wrap64]; exact Red.rfl))
   | ((with_reducible first | apply e_no | apply d_no); (simp (disch := omega) [wrap64]; exact Red.rfl); decide)
   | ((with_reducible apply e_no'); (simp (disch := omega) [wrap64]; exact Red.rfl); decide)
   | ((with_reducible first | apply e_un | apply d_un | apply e_false); (simp (disch := omega) [wrap64]; exact Red.rfl))
   | ((with_reducible apply d_pure); rfl; (simp (disch := omega) [wrap64]; exact Red.rfl); exact Red.rfl; (focus (first | (simp; done) | omega | (simp; omega))))
   | ((with_reducible apply d_read); rfl; rfl; (simp (disch := omega) [wrap64]; exact Red.rfl); exact Red.rfl; (focus (first | (simp; done) | omega | (simp; omega))))
   | ((with_reducible apply d_read_); rfl; (simp (disch := omega) [wrap64]; exact Red.rfl); exact Red.rfl; (focus (first | (simp; done) | omega | (simp; omega))); (focus (simp [repast, pr, AOp.sem]; done)))
   | ((with_reducible apply d_new); rfl; (simp (disch := omega) [wrap64]; exact Red.rfl); exact Red.rfl; (focus (first | (simp; done) | omega | (simp; omega))); (focus (first | (simp; done) | (simp; omega))))
   | ((with_reducible first | apply d_do | apply d_set); rfl; rfl; rfl; (simp (disch := omega) [wrap64]; exact Red.rfl); exact Red.rfl; (focus (first | (simp; done) | omega | (simp; omega))); (focus (first | (simp; done) | (simp; omega))); (focus (first | (simp; done) | (simp; omega)))))
  (with_reducible apply e_call); (simp; exact Red.rfl); exact c_alive _
  rintro _ _ ⟨rfl, rfl⟩
  repeat (first
   | (with_reducible first | refine e_seq ?_ | refine e_ops ?_ | refine e_ret ?_ | refine e_exit ?_ | refine e_skip ?_ | refine e_block ?_ | refine e_scope ?_ | refine q_then ?_ | refine q_ret ?_ | refine q_exit ?_ | refine q_block ?_ | refine q_block_ret ?_ | refine q_block_exit ?_)
   | ((with_reducible apply q_block_other); decide)
   | (with_reducible first | refine q_again_ret ?_ | refine q_again_exit ?_ | refine q_scope ?_ | refine q_scope_ret ?_ | refine d_start ?_)
   | ((with_reducible first | apply e_end | apply d_end); (simp; exact Red.rfl))
   | ((with_reducible first | apply e_op | apply e_do); rfl; (simp (disch := omega) [wrap64]; exact Red.rfl); exact Red.rfl; (focus (first | (simp; done) | omega | (simp; omega))))
   | ((with_reducible first | apply e_yes | apply d_yes | apply e_true); (simp (disch := omega) [wrap64]; exact Red.rfl))
   | ((with_reducible first | apply e_no | apply d_no); (simp (disch := omega) [wrap64]; exact Red.rfl); decide)
   | ((with_reducible apply e_no'); (simp (disch := omega) [wrap64]; exact Red.rfl); decide)
   | ((with_reducible first | apply e_un | apply d_un | apply e_false); (simp (disch := omega) [wrap64]; exact Red.rfl))
   | ((with_reducible apply d_pure); rfl; (simp (disch := omega) [wrap64]; exact Red.rfl); exact Red.rfl; (focus (first | (simp; done) | omega | (simp; omega))))
   | ((with_reducible apply d_read); rfl; rfl; (simp (disch := omega) [wrap64]; exact Red.rfl); exact Red.rfl; (focus (first | (simp; done) | omega | (simp; omega))))
   | ((with_reducible apply d_read_); rfl; (simp (disch := omega) [wrap64]; exact Red.rfl); exact Red.rfl; (focus (first | (simp; done) | omega | (simp; omega))); (focus (simp [repast, pr, AOp.sem]; done)))
   | ((with_reducible apply d_new); rfl; (simp (disch := omega) [wrap64]; exact Red.rfl); exact Red.rfl; (focus (first | (simp; done) | omega | (simp; omega))); (focus (first | (simp; done) | (simp; omega))))
   | ((with_reducible first | apply d_do | apply d_set); rfl; rfl; rfl; (simp (disch := omega) [wrap64]; exact Red.rfl); exact Red.rfl; (focus (first | (simp; done) | omega | (simp; omega))); (focus (first | (simp; done) | (simp; omega))); (focus (first | (simp; done) | (simp; omega)))))
  (with_reducible apply e_call); (simp; exact Red.rfl); exact c_ready _ l id off ex (by rw [rd_old _ hid]; exact hs)
  rintro _ _ ⟨rfl, b, rfl, hbv⟩
  cases b with
  | false =>
    repeat (first
     | (with_reducible first | refine e_seq ?_ | refine e_ops ?_ | refine e_ret ?_ | refine e_exit ?_ | refine e_skip ?_ | refine e_block ?_ | refine e_scope ?_ | refine q_then ?_ | refine q_ret ?_ | refine q_exit ?_ | refine q_block ?_ | refine q_block_ret ?_ | refine q_block_exit ?_)
     | ((with_reducible apply q_block_other); decide)
     | (with_reducible first | refine q_again_ret ?_ | refine q_again_exit ?_ | refine q_scope ?_ | refine q_scope_ret ?_ | refine d_start ?_)
     | ((with_reducible first | apply e_end | apply d_end); (simp; exact Red.rfl))
     | ((with_reducible first | apply e_op | apply e_do); rfl; (simp (disch := omega) [wrap64]; exact Red.rfl); exact Red.rfl; (focus (first | (simp; done) | omega | (simp; omega))))
     | ((with_reducible first | apply e_yes | apply d_yes | apply e_true); (simp (disch := omega) [wrap64]; exact Red.rfl))
     | ((with_reducible first | apply e_no | apply d_no); (simp (disch := omega) [wrap64]; exact Red.rfl); decide)
     | ((with_reducible apply e_no'); (simp (disch := omega) [wrap64]; exact Red.rfl); decide)
     | ((with_reducible first | apply e_un | apply d_un | apply e_false); (simp (disch := omega) [wrap64]; exact Red.rfl))
     | ((with_reducible apply d_pure); rfl; (simp (disch := omega) [wrap64]; exact Red.rfl); exact Red.rfl; (focus (first | (simp; done) | omega | (simp; omega))))
     | ((with_reducible apply d_read); rfl; rfl; (simp (disch := omega) [wrap64]; exact Red.rfl); exact Red.rfl; (focus (first | (simp; done) | omega | (simp; omega))))
     | ((with_reducible apply d_read_); rfl; (simp (disch := omega) [wrap64]; exact Red.rfl); exact Red.rfl; (focus (first | (simp; done) | omega | (simp; omega))); (focus (simp [repast, pr, AOp.sem]; done)))
     | ((with_reducible apply d_new); rfl; (simp (disch := omega) [wrap64]; exact Red.rfl); exact Red.rfl; (focus (first | (simp; done) | omega | (simp; omega))); (focus (first | (simp; done) | (simp; omega))))
     | ((with_reducible first | apply d_do | apply d_set); rfl; rfl; rfl; (simp (disch := omega) [wrap64]; exact Red.rfl); exact Red.rfl; (focus (first | (simp; done) | omega | (simp; omega))); (focus (first | (simp; done) | (simp; omega))); (focus (first | (simp; done) | (simp; omega)))))
    exact q_drop (.inr rfl) (by simp; exact Red.rfl) (by simp) rfl
  | true =>
    have hv := hbv.1 rfl
    have h12 := hv.1
    repeat (first
     | (with_reducible first | refine e_seq ?_ | refine e_ops ?_ | refine e_ret ?_ | refine e_exit ?_ | refine e_skip ?_ | refine e_block ?_ | refine e_scope ?_ | refine q_then ?_ | refine q_ret ?_ | refine q_exit ?_ | refine q_block ?_ | refine q_block_ret ?_ | refine q_block_exit ?_)
     | ((with_reducible apply q_block_other); decide)
     | (with_reducible first | refine q_again_ret ?_ | refine q_again_exit ?_ | refine q_scope ?_ | refine q_scope_ret ?_ | refine d_start ?_)
     | ((with_reducible first | apply e_end | apply d_end); (simp; exact Red.rfl))
     | ((with_reducible first | apply e_op | apply e_do); rfl; (simp (disch := omega) [wrap64]; exact Red.rfl); exact Red.rfl; (focus (first | (simp; done) | omega | (simp; omega))))
     | ((with_reducible first | apply e_yes | apply d_yes | apply e_true); (simp (disch := omega) [wrap64]; exact Red.rfl))
     | ((with_reducible first | apply e_no | apply d_no); (simp (disch := omega) [wrap64]; exact Red.rfl); decide)
     | ((with_reducible apply e_no'); (simp (disch := omega) [wrap64]; exact Red.rfl); decide)
     | ((with_reducible first | apply e_un | apply d_un | apply e_false); (simp (disch := omega) [wrap64]; exact Red.rfl))
     | ((with_reducible apply d_pure); rfl; (simp (disch := omega) [wrap64]; exact Red.rfl); exact Red.rfl; (focus (first | (simp; done) | omega | (simp; omega))))
     | ((with_reducible apply d_read); rfl; rfl; (simp (disch := omega) [wrap64]; exact Red.rfl); exact Red.rfl; (focus (first | (simp; done) | omega | (simp; omega))))
     | ((with_reducible apply d_read_); rfl; (simp (disch := omega) [wrap64]; exact Red.rfl); exact Red.rfl; (focus (first | (simp; done) | omega | (simp; omega))); (focus (simp [repast, pr, AOp.sem]; done)))
     | ((with_reducible apply d_new); rfl; (simp (disch := omega) [wrap64]; exact Red.rfl); exact Red.rfl; (focus (first | (simp; done) | omega | (simp; omega))); (focus (first | (simp; done) | (simp; omega))))
     | ((with_reducible first | apply d_do | apply d_set); rfl; rfl; rfl; (simp (disch := omega) [wrap64]; exact Red.rfl); exact Red.rfl; (focus (first | (simp; done) | omega | (simp; omega))); (focus (first | (simp; done) | (simp; omega))); (focus (first | (simp; done) | (simp; omega)))))
    (with_reducible apply e_call); (simp; exact Red.rfl); exact c_Steepest _ l id off ex (by rw [rd_old _ hid]; exact hs) hv
    rintro _ _ ⟨rfl, rfl⟩
    obtain ⟨a, r, hks⟩ := ksF_ne hv
    have hnz : ¬ (ksF l l.length).length = 0 := by rw [hks]; simp
    have hnz2 : ¬ ksF l l.length = [] := by rw [hks]; simp
    have hkl : (ksF l l.length).length ≤ 12 := by
      have := List.length_filter_le (selB l) (List.range l.length)
      simp only [List.length_range] at this
      simp only [ksF]
      omega
    repeat (first
     | (with_reducible first | refine e_seq ?_ | refine e_ops ?_ | refine e_ret ?_ | refine e_exit ?_ | refine e_skip ?_ | refine e_block ?_ | refine e_scope ?_ | refine q_then ?_ | refine q_ret ?_ | refine q_exit ?_ | refine q_block ?_ | refine q_block_ret ?_ | refine q_block_exit ?_)
     | ((with_reducible apply q_block_other); decide)
     | (with_reducible first | refine q_again_ret ?_ | refine q_again_exit ?_ | refine q_scope ?_ | refine q_scope_ret ?_ | refine d_start ?_)
     | ((with_reducible first | apply e_end | apply d_end); (simp; exact Red.rfl))
     | ((with_reducible first | apply e_op | apply e_do); rfl; (simp (disch := omega) [wrap64, hnz, hnz2]; exact Red.rfl); exact Red.rfl; (focus (first | (simp; done) | omega | (simp; omega))))
     | ((with_reducible first | apply e_yes | apply d_yes | apply e_true); (simp (disch := omega) [wrap64, hnz, hnz2]; exact Red.rfl))
     | ((with_reducible first | apply e_no | apply d_no); (simp (disch := omega) [wrap64, hnz, hnz2]; exact Red.rfl); decide)
     | ((with_reducible apply e_no'); (simp (disch := omega) [wrap64, hnz, hnz2]; exact Red.rfl); decide)
     | ((with_reducible first | apply e_un | apply d_un | apply e_false); (simp (disch := omega) [wrap64, hnz, hnz2]; exact Red.rfl))
     | ((with_reducible apply d_pure); rfl; (simp (disch := omega) [wrap64, hnz, hnz2]; exact Red.rfl); exact Red.rfl; (focus (first | (simp; done) | omega | (simp; omega))))
     | ((with_reducible apply d_read); rfl; rfl; (simp (disch := omega) [wrap64, hnz, hnz2]; exact Red.rfl); exact Red.rfl; (focus (first | (simp; done) | omega | (simp; omega))))
     | ((with_reducible apply d_read_); rfl; (simp (disch := omega) [wrap64, hnz, hnz2]; exact Red.rfl); exact Red.rfl; (focus (first | (simp; done) | omega | (simp; omega))); (focus (simp [repast, pr, AOp.sem]; done)))
     | ((with_reducible apply d_new); rfl; (simp (disch := omega) [wrap64, hnz, hnz2]; exact Red.rfl); exact Red.rfl; (focus (first | (simp; done) | omega | (simp; omega))); (focus (first | (simp; done) | (simp; omega))))
     | ((with_reducible first | apply d_do | apply d_set); rfl; rfl; rfl; (simp (disch := omega) [wrap64, hnz, hnz2]; exact Red.rfl); exact Red.rfl; (focus (first | (simp; done) | omega | (simp; omega))); (focus (first | (simp; done) | (simp; omega))); (focus (first | (simp; done) | (simp; omega)))))
    (with_reducible apply e_call); (simp; exact Red.rfl); exact c_truth _ l us id off bid boff ex bex (by rw [rd_old _ hid]; exact hs) hv (by rw [rd_old _ hbid]; exact hb) hu hn
    rintro _ _ ⟨rfl, rfl⟩
    repeat (first
     | (with_reducible first | refine e_seq ?_ | refine e_ops ?_ | refine e_ret ?_ | refine e_exit ?_ | refine e_skip ?_ | refine e_block ?_ | refine e_scope ?_ | refine q_then ?_ | refine q_ret ?_ | refine q_exit ?_ | refine q_block ?_ | refine q_block_ret ?_ | refine q_block_exit ?_)
     | ((with_reducible apply q_block_other); decide)
     | (with_reducible first | refine q_again_ret ?_ | refine q_again_exit ?_ | refine q_scope ?_ | refine q_scope_ret ?_ | refine d_start ?_)
     | ((with_reducible first | apply e_end | apply d_end); (simp; exact Red.rfl))
     | ((with_reducible first | apply e_op | apply e_do); rfl; (simp (disch := omega) [wrap64]; exact Red.rfl); exact Red.rfl; (focus (first | (simp; done) | omega | (simp; omega))))
     | ((with_reducible first | apply e_yes | apply d_yes | apply e_true); (simp (disch := omega) [wrap64]; exact Red.rfl))
     | ((with_reducible first | apply e_no | apply d_no); (simp (disch := omega) [wrap64]; exact Red.rfl); decide)
     | ((with_reducible apply e_no'); (simp (disch := omega) [wrap64]; exact Red.rfl); decide)
     | ((with_reducible first | apply e_un | apply d_un | apply e_false); (simp (disch := omega) [wrap64]; exact Red.rfl))
     | ((with_reducible apply d_pure); rfl; (simp (disch := omega) [wrap64]; exact Red.rfl); exact Red.rfl; (focus (first | (simp; done) | omega | (simp; omega))))
     | ((with_reducible apply d_read); rfl; rfl; (simp (disch := omega) [wrap64]; exact Red.rfl); exact Red.rfl; (focus (first | (simp; done) | omega | (simp; omega))))
     | ((with_reducible apply d_read_); rfl; (simp (disch := omega) [wrap64]; exact Red.rfl); exact Red.rfl; (focus (first | (simp; done) | omega | (simp; omega))); (focus (simp [repast, pr, AOp.sem]; done)))
     | ((with_reducible apply d_new); rfl; (simp (disch := omega) [wrap64]; exact Red.rfl); exact Red.rfl; (focus (first | (simp; done) | omega | (simp; omega))); (focus (first | (simp; done) | (simp; omega))))
     | ((with_reducible first | apply d_do | apply d_set); rfl; rfl; rfl; (simp (disch := omega) [wrap64]; exact Red.rfl); exact Red.rfl; (focus (first | (simp; done) | omega | (simp; omega))); (focus (first | (simp; done) | (simp; omega))); (focus (first | (simp; done) | (simp; omega)))))
    have hsort := ksF_sorted l l.length
    have hbd : ∀ x ∈ ksF l l.length, x < l.length := fun x hx => ksF_lt hx
    have hmem : ∀ i, i < l.length → (i ∈ ksF l l.length ↔ selB l i = true) := fun i hi => by simp [ksF, hi]
    clear hks hbv
    generalize ksF l l.length = ks at *
    refine e_loop (ι := { j : Nat // j ≤ ks.length })
      (fun j => [(2, .ptr H.length 0), (5, .bool true), (6, .slice (H.length + 1) 0 ks.length 1 false), (8, .slice (H.length + 2) 0 l.length 1 false), (9, .slice (H.length + 3) 0 l.length 1 false), (10, .map (H.length + 4)), (48, .slice (H.length + 1) 0 ks.length 1 false), (49, .int .i64 ks.length), (50, .int .i64 j.1)])
      (fun j => H ++ [.cells [.slice id off l.length 9 ex] true, .cells (avN ks) true, .cells (avL (longF us l) l.length) true, .cells (avL (fallF us l) l.length) true, mp (ks.take j.1)]) (fun j => ks.length - j.1) ⟨0, by simp⟩ ?_ ?_
    · refine .inr <| le_same (G := [_, _, _, _, _]) ?_ ?_
      · exact sc5 (xs := []) (by simp; omega)
      · simp [hid, Red]
    · rintro ⟨j, hj⟩
      dsimp only
      by_cases hlt : j < ks.length
      · have hlt2 : (j : Int) < ks.length := by omega
        have hx := avN_get hlt
        have hlt3 : j + 1 ≤ ks.length := hlt
        have hlt4 : j - 1 + 1 ≤ ks.length := by omega
        have hlt5 : j - 1 < ks.length := by omega
        have hxb := hbd ks[j] (List.getElem_mem hlt)
        have hnm : ¬ ks[j] ∈ ks.take j := by
          intro hm
          obtain ⟨i, hi, he⟩ := List.getElem_of_mem hm
          have hi2 : i < j := by simp at hi; omega
          rw [List.getElem_take] at he
          have := List.pairwise_iff_getElem.1 hsort i j (by omega) hlt hi2
          omega
        have htn : ((j : Int) - 1).toNat = j - 1 := by omega
        have htk : ks.take j ++ [ks[j]] = ks.take (j + 1) := by rw [List.take_succ_eq_append_getElem hlt]
        have hprev : ∀ _ : 0 < j, List.take 1 (List.drop (j - 1) (avN ks)) = [.int .i64 ((ks[j - 1]'(by omega) : Nat) : Int)] ∧ ks[j - 1]'(by omega) < ks[j] := fun h => ⟨avN_get (by omega), by
          exact List.pairwise_iff_getElem.1 hsort (j - 1) j (by omega) hlt (by omega)⟩
        generalize ks[j] = x at hx hxb hnm htk hprev
        have hx0 : ¬ (x : Int) < 0 := by omega
        have hxl : ¬ (l.length : Int) ≤ x := by omega
        have hxl2 : ¬ l.length ≤ x := by omega
        by_cases hj0 : 0 < j
        · obtain ⟨hy, hyx⟩ := hprev hj0
          generalize (ks[j - 1]'(by omega)) = y at hy hyx
          have hyx2 : ¬ x ≤ y := by omega
          repeat (first
           | (with_reducible first | refine e_seq ?_ | refine e_ops ?_ | refine e_ret ?_ | refine e_exit ?_ | refine e_skip ?_ | refine e_block ?_ | refine e_scope ?_ | refine q_then ?_ | refine q_ret ?_ | refine q_exit ?_ | refine q_block ?_ | refine q_block_ret ?_ | refine q_block_exit ?_)
           | ((with_reducible apply q_block_other); decide)
           | (with_reducible first | refine q_again_ret ?_ | refine q_again_exit ?_ | refine q_scope ?_ | refine q_scope_ret ?_ | refine d_start ?_)
           | ((with_reducible first | apply e_end | apply d_end); (simp; exact Red.rfl))
           | ((with_reducible first | apply e_op | apply e_do); rfl; (simp (disch := omega) [wrap64, hlt2, hlt, hlt3, hlt4, hlt5, hx, avN_length, hx0, hxl, hxl2, hj0, hy, hyx2, htn, hj]; exact Red.rfl); exact Red.rfl; (focus (first | (simp; done) | omega | (simp; omega))))
           | ((with_reducible first | apply e_yes | apply d_yes | apply e_true); (simp (disch := omega) [wrap64, hlt2, hlt, hlt3, hlt4, hlt5, hx, avN_length, hx0, hxl, hxl2, hj0, hy, hyx2, htn, hj]; exact Red.rfl))
           | ((with_reducible first | apply e_no | apply d_no); (simp (disch := omega) [wrap64, hlt2, hlt, hlt3, hlt4, hlt5, hx, avN_length, hx0, hxl, hxl2, hj0, hy, hyx2, htn, hj]; exact Red.rfl); decide)
           | ((with_reducible apply e_no'); (simp (disch := omega) [wrap64, hlt2, hlt, hlt3, hlt4, hlt5, hx, avN_length, hx0, hxl, hxl2, hj0, hy, hyx2, htn, hj]; exact Red.rfl); decide)
           | ((with_reducible first | apply e_un | apply d_un | apply e_false); (simp (disch := omega) [wrap64, hlt2, hlt, hlt3, hlt4, hlt5, hx, avN_length, hx0, hxl, hxl2, hj0, hy, hyx2, htn, hj]; exact Red.rfl))
           | ((with_reducible apply d_pure); rfl; (simp (disch := omega) [wrap64, hlt2, hlt, hlt3, hlt4, hlt5, hx, avN_length, hx0, hxl, hxl2, hj0, hy, hyx2, htn, hj]; exact Red.rfl); exact Red.rfl; (focus (first | (simp; done) | omega | (simp; omega))))
           | ((with_reducible apply d_read); rfl; rfl; (simp (disch := omega) [wrap64, hlt2, hlt, hlt3, hlt4, hlt5, hx, avN_length, hx0, hxl, hxl2, hj0, hy, hyx2, htn, hj]; exact Red.rfl); exact Red.rfl; (focus (first | (simp; done) | omega | (simp; omega))))
           | ((with_reducible apply d_read_); rfl; (simp (disch := omega) [wrap64, hlt2, hlt, hlt3, hlt4, hlt5, hx, avN_length, hx0, hxl, hxl2, hj0, hy, hyx2, htn, hj]; exact Red.rfl); exact Red.rfl; (focus (first | (simp; done) | omega | (simp; omega))); (focus (simp [repast, pr, AOp.sem]; done)))
           | ((with_reducible apply d_new); rfl; (simp (disch := omega) [wrap64, hlt2, hlt, hlt3, hlt4, hlt5, hx, avN_length, hx0, hxl, hxl2, hj0, hy, hyx2, htn, hj]; exact Red.rfl); exact Red.rfl; (focus (first | (simp; done) | omega | (simp; omega))); (focus (first | (simp; done) | (simp; omega))))
           | ((with_reducible first | apply d_do | apply d_set); rfl; rfl; rfl; (simp (disch := omega) [wrap64, hlt2, hlt, hlt3, hlt4, hlt5, hx, avN_length, hx0, hxl, hxl2, hj0, hy, hyx2, htn, hj]; exact Red.rfl); exact Red.rfl; (focus (first | (simp; done) | omega | (simp; omega))); (focus (first | (simp; done) | (simp; omega))); (focus (first | (simp; done) | (simp; omega)))))
          (with_reducible apply e_do); rfl; exact den_put (xs := ks.take j) (k := x) rfl rfl (by rw [at_new]; rfl) hnm rfl; exact Red.rfl; trivial
          rw [set_new]; simp only [List.set_cons_succ, List.set_cons_zero]; rw [htk]
          repeat (first
           | (with_reducible first | refine e_seq ?_ | refine e_ops ?_ | refine e_ret ?_ | refine e_exit ?_ | refine e_skip ?_ | refine e_block ?_ | refine e_scope ?_ | refine q_then ?_ | refine q_ret ?_ | refine q_exit ?_ | refine q_block ?_ | refine q_block_ret ?_ | refine q_block_exit ?_)
           | ((with_reducible apply q_block_other); decide)
           | (with_reducible first | refine q_again_ret ?_ | refine q_again_exit ?_ | refine q_scope ?_ | refine q_scope_ret ?_ | refine d_start ?_)
           | ((with_reducible first | apply e_end | apply d_end); (simp; exact Red.rfl))
           | ((with_reducible first | apply e_op | apply e_do); rfl; (simp (disch := omega) [wrap64]; exact Red.rfl); exact Red.rfl; (focus (first | (simp; done) | omega | (simp; omega))))
           | ((with_reducible first | apply e_yes | apply d_yes | apply e_true); (simp (disch := omega) [wrap64]; exact Red.rfl))
           | ((with_reducible first | apply e_no | apply d_no); (simp (disch := omega) [wrap64]; exact Red.rfl); decide)
           | ((with_reducible apply e_no'); (simp (disch := omega) [wrap64]; exact Red.rfl); decide)
           | ((with_reducible first | apply e_un | apply d_un | apply e_false); (simp (disch := omega) [wrap64]; exact Red.rfl))
           | ((with_reducible apply d_pure); rfl; (simp (disch := omega) [wrap64]; exact Red.rfl); exact Red.rfl; (focus (first | (simp; done) | omega | (simp; omega))))
           | ((with_reducible apply d_read); rfl; rfl; (simp (disch := omega) [wrap64]; exact Red.rfl); exact Red.rfl; (focus (first | (simp; done) | omega | (simp; omega))))
           | ((with_reducible apply d_read_); rfl; (simp (disch := omega) [wrap64]; exact Red.rfl); exact Red.rfl; (focus (first | (simp; done) | omega | (simp; omega))); (focus (simp [repast, pr, AOp.sem]; done)))
           | ((with_reducible apply d_new); rfl; (simp (disch := omega) [wrap64]; exact Red.rfl); exact Red.rfl; (focus (first | (simp; done) | omega | (simp; omega))); (focus (first | (simp; done) | (simp; omega))))
           | ((with_reducible first | apply d_do | apply d_set); rfl; rfl; rfl; (simp (disch := omega) [wrap64]; exact Red.rfl); exact Red.rfl; (focus (first | (simp; done) | omega | (simp; omega))); (focus (first | (simp; done) | (simp; omega))); (focus (first | (simp; done) | (simp; omega)))))
          exact q_again ⟨j + 1, by omega⟩ (by dsimp only; omega) (.inr <| le_same (G := [_, _, _, _, _]) (sc5 (by simp; omega)) (by simp [hid, Red]))
        · repeat (first
           | (with_reducible first | refine e_seq ?_ | refine e_ops ?_ | refine e_ret ?_ | refine e_exit ?_ | refine e_skip ?_ | refine e_block ?_ | refine e_scope ?_ | refine q_then ?_ | refine q_ret ?_ | refine q_exit ?_ | refine q_block ?_ | refine q_block_ret ?_ | refine q_block_exit ?_)
           | ((with_reducible apply q_block_other); decide)
           | (with_reducible first | refine q_again_ret ?_ | refine q_again_exit ?_ | refine q_scope ?_ | refine q_scope_ret ?_ | refine d_start ?_)
           | ((with_reducible first | apply e_end | apply d_end); (simp; exact Red.rfl))
           | ((with_reducible first | apply e_op | apply e_do); rfl; (simp (disch := omega) [wrap64, hlt2, hlt, hlt3, hlt4, hlt5, hx, avN_length, hx0, hxl, hxl2, hj0]; exact Red.rfl); exact Red.rfl; (focus (first | (simp; done) | omega | (simp; omega))))
           | ((with_reducible first | apply e_yes | apply d_yes | apply e_true); (simp (disch := omega) [wrap64, hlt2, hlt, hlt3, hlt4, hlt5, hx, avN_length, hx0, hxl, hxl2, hj0]; exact Red.rfl))
           | ((with_reducible first | apply e_no | apply d_no); (simp (disch := omega) [wrap64, hlt2, hlt, hlt3, hlt4, hlt5, hx, avN_length, hx0, hxl, hxl2, hj0]; exact Red.rfl); decide)
           | ((with_reducible apply e_no'); (simp (disch := omega) [wrap64, hlt2, hlt, hlt3, hlt4, hlt5, hx, avN_length, hx0, hxl, hxl2, hj0]; exact Red.rfl); decide)
           | ((with_reducible first | apply e_un | apply d_un | apply e_false); (simp (disch := omega) [wrap64, hlt2, hlt, hlt3, hlt4, hlt5, hx, avN_length, hx0, hxl, hxl2, hj0]; exact Red.rfl))
           | ((with_reducible apply d_pure); rfl; (simp (disch := omega) [wrap64, hlt2, hlt, hlt3, hlt4, hlt5, hx, avN_length, hx0, hxl, hxl2, hj0]; exact Red.rfl); exact Red.rfl; (focus (first | (simp; done) | omega | (simp; omega))))
           | ((with_reducible apply d_read); rfl; rfl; (simp (disch := omega) [wrap64, hlt2, hlt, hlt3, hlt4, hlt5, hx, avN_length, hx0, hxl, hxl2, hj0]; exact Red.rfl); exact Red.rfl; (focus (first | (simp; done) | omega | (simp; omega))))
           | ((with_reducible apply d_read_); rfl; (simp (disch := omega) [wrap64, hlt2, hlt, hlt3, hlt4, hlt5, hx, avN_length, hx0, hxl, hxl2, hj0]; exact Red.rfl); exact Red.rfl; (focus (first | (simp; done) | omega | (simp; omega))); (focus (simp [repast, pr, AOp.sem]; done)))
           | ((with_reducible apply d_new); rfl; (simp (disch := omega) [wrap64, hlt2, hlt, hlt3, hlt4, hlt5, hx, avN_length, hx0, hxl, hxl2, hj0]; exact Red.rfl); exact Red.rfl; (focus (first | (simp; done) | omega | (simp; omega))); (focus (first | (simp; done) | (simp; omega))))
           | ((with_reducible first | apply d_do | apply d_set); rfl; rfl; rfl; (simp (disch := omega) [wrap64, hlt2, hlt, hlt3, hlt4, hlt5, hx, avN_length, hx0, hxl, hxl2, hj0]; exact Red.rfl); exact Red.rfl; (focus (first | (simp; done) | omega | (simp; omega))); (focus (first | (simp; done) | (simp; omega))); (focus (first | (simp; done) | (simp; omega)))))
          (with_reducible apply e_do); rfl; exact den_put (xs := ks.take j) (k := x) rfl rfl (by rw [at_new]; rfl) hnm rfl; exact Red.rfl; trivial
          rw [set_new]; simp only [List.set_cons_succ, List.set_cons_zero]; rw [htk]
          repeat (first
           | (with_reducible first | refine e_seq ?_ | refine e_ops ?_ | refine e_ret ?_ | refine e_exit ?_ | refine e_skip ?_ | refine e_block ?_ | refine e_scope ?_ | refine q_then ?_ | refine q_ret ?_ | refine q_exit ?_ | refine q_block ?_ | refine q_block_ret ?_ | refine q_block_exit ?_)
           | ((with_reducible apply q_block_other); decide)
           | (with_reducible first | refine q_again_ret ?_ | refine q_again_exit ?_ | refine q_scope ?_ | refine q_scope_ret ?_ | refine d_start ?_)
           | ((with_reducible first | apply e_end | apply d_end); (simp; exact Red.rfl))
           | ((with_reducible first | apply e_op | apply e_do); rfl; (simp (disch := omega) [wrap64]; exact Red.rfl); exact Red.rfl; (focus (first | (simp; done) | omega | (simp; omega))))
           | ((with_reducible first | apply e_yes | apply d_yes | apply e_true); (simp (disch := omega) [wrap64]; exact Red.rfl))
           | ((with_reducible first | apply e_no | apply d_no); (simp (disch := omega) [wrap64]; exact Red.rfl); decide)
           | ((with_reducible apply e_no'); (simp (disch := omega) [wrap64]; exact Red.rfl); decide)
           | ((with_reducible first | apply e_un | apply d_un | apply e_false); (simp (disch := omega) [wrap64]; exact Red.rfl))
           | ((with_reducible apply d_pure); rfl; (simp (disch := omega) [wrap64]; exact Red.rfl); exact Red.rfl; (focus (first | (simp; done) | omega | (simp; omega))))
           | ((with_reducible apply d_read); rfl; rfl; (simp (disch := omega) [wrap64]; exact Red.rfl); exact Red.rfl; (focus (first | (simp; done) | omega | (simp; omega))))
           | ((with_reducible apply d_read_); rfl; (simp (disch := omega) [wrap64]; exact Red.rfl); exact Red.rfl; (focus (first | (simp; done) | omega | (simp; omega))); (focus (simp [repast, pr, AOp.sem]; done)))
           | ((with_reducible apply d_new); rfl; (simp (disch := omega) [wrap64]; exact Red.rfl); exact Red.rfl; (focus (first | (simp; done) | omega | (simp; omega))); (focus (first | (simp; done) | (simp; omega))))
           | ((with_reducible first | apply d_do | apply d_set); rfl; rfl; rfl; (simp (disch := omega) [wrap64]; exact Red.rfl); exact Red.rfl; (focus (first | (simp; done) | omega | (simp; omega))); (focus (first | (simp; done) | (simp; omega))); (focus (first | (simp; done) | (simp; omega)))))
          exact q_again ⟨j + 1, by omega⟩ (by dsimp only; omega) (.inr <| le_same (G := [_, _, _, _, _]) (sc5 (by simp; omega)) (by simp [hid, Red]))
      · have hlt2 : ¬ (j : Int) < ks.length := by omega
        obtain rfl : j = ks.length := by omega
        rw [List.take_length]
        repeat (first
         | (with_reducible first | refine e_seq ?_ | refine e_ops ?_ | refine e_ret ?_ | refine e_exit ?_ | refine e_skip ?_ | refine e_block ?_ | refine e_scope ?_ | refine q_then ?_ | refine q_ret ?_ | refine q_exit ?_ | refine q_block ?_ | refine q_block_ret ?_ | refine q_block_exit ?_)
         | ((with_reducible apply q_block_other); decide)
         | (with_reducible first | refine q_again_ret ?_ | refine q_again_exit ?_ | refine q_scope ?_ | refine q_scope_ret ?_ | refine d_start ?_)
         | ((with_reducible first | apply e_end | apply d_end); (simp; exact Red.rfl))
         | ((with_reducible first | apply e_op | apply e_do); rfl; (simp (disch := omega) [wrap64, hlt2, hlt]; exact Red.rfl); exact Red.rfl; (focus (first | (simp; done) | omega | (simp; omega))))
         | ((with_reducible first | apply e_yes | apply d_yes | apply e_true); (simp (disch := omega) [wrap64, hlt2, hlt]; exact Red.rfl))
         | ((with_reducible first | apply e_no | apply d_no); (simp (disch := omega) [wrap64, hlt2, hlt]; exact Red.rfl); decide)
         | ((with_reducible apply e_no'); (simp (disch := omega) [wrap64, hlt2, hlt]; exact Red.rfl); decide)
         | ((with_reducible first | apply e_un | apply d_un | apply e_false); (simp (disch := omega) [wrap64, hlt2, hlt]; exact Red.rfl))
         | ((with_reducible apply d_pure); rfl; (simp (disch := omega) [wrap64, hlt2, hlt]; exact Red.rfl); exact Red.rfl; (focus (first | (simp; done) | omega | (simp; omega))))
         | ((with_reducible apply d_read); rfl; rfl; (simp (disch := omega) [wrap64, hlt2, hlt]; exact Red.rfl); exact Red.rfl; (focus (first | (simp; done) | omega | (simp; omega))))
         | ((with_reducible apply d_read_); rfl; (simp (disch := omega) [wrap64, hlt2, hlt]; exact Red.rfl); exact Red.rfl; (focus (first | (simp; done) | omega | (simp; omega))); (focus (simp [repast, pr, AOp.sem]; done)))
         | ((with_reducible apply d_new); rfl; (simp (disch := omega) [wrap64, hlt2, hlt]; exact Red.rfl); exact Red.rfl; (focus (first | (simp; done) | omega | (simp; omega))); (focus (first | (simp; done) | (simp; omega))))
         | ((with_reducible first | apply d_do | apply d_set); rfl; rfl; rfl; (simp (disch := omega) [wrap64, hlt2, hlt]; exact Red.rfl); exact Red.rfl; (focus (first | (simp; done) | omega | (simp; omega))); (focus (first | (simp; done) | (simp; omega))); (focus (first | (simp; done) | (simp; omega)))))
        clear hj hlt hlt2 hnz hnz2
        refine e_loop (ι := { i : Nat // i ≤ l.length })
          (fun i => [(2, .ptr H.length 0), (5, .bool true), (8, .slice (H.length + 2) 0 l.length 1 false), (9, .slice (H.length + 3) 0 l.length 1 false), (10, .map (H.length + 4)), (80, .int .i64 l.length), (81, .int .i64 i.1)])
          (fun _ => H ++ [.cells [.slice id off l.length 9 ex] true, .cells (avN ks) true, .cells (avL (longF us l) l.length) true, .cells (avL (fallF us l) l.length) true, mp ks]) (fun i => l.length - i.1) ⟨0, by simp⟩ ?_ ?_
        · exact .inr <| le_same (G := [_, _, _, _, _]) (sc5 (by simp; omega)) (by simp [Red])
        · rintro ⟨i, hi⟩
          dsimp only
          by_cases hlt : i < l.length
          · have hlt2 : (i : Int) < l.length := by omega
            have hlt3 : i + 1 ≤ l.length := hlt
            repeat (first
             | (with_reducible first | refine e_seq ?_ | refine e_ops ?_ | refine e_ret ?_ | refine e_exit ?_ | refine e_skip ?_ | refine e_block ?_ | refine e_scope ?_ | refine q_then ?_ | refine q_ret ?_ | refine q_exit ?_ | refine q_block ?_ | refine q_block_ret ?_ | refine q_block_exit ?_)
             | ((with_reducible apply q_block_other); decide)
             | (with_reducible first | refine q_again_ret ?_ | refine q_again_exit ?_ | refine q_scope ?_ | refine q_scope_ret ?_ | refine d_start ?_)
             | ((with_reducible first | apply e_end | apply d_end); (simp; exact Red.rfl))
             | ((with_reducible first | apply e_op | apply e_do); rfl; (simp (disch := omega) [wrap64, hlt2, hlt]; exact Red.rfl); exact Red.rfl; (focus (first | (simp; done) | omega | (simp; omega))))
             | ((with_reducible first | apply e_yes | apply d_yes | apply e_true); (simp (disch := omega) [wrap64, hlt2, hlt]; exact Red.rfl))
             | ((with_reducible first | apply e_no | apply d_no); (simp (disch := omega) [wrap64, hlt2, hlt]; exact Red.rfl); decide)
             | ((with_reducible apply e_no'); (simp (disch := omega) [wrap64, hlt2, hlt]; exact Red.rfl); decide)
             | ((with_reducible first | apply e_un | apply d_un | apply e_false); (simp (disch := omega) [wrap64, hlt2, hlt]; exact Red.rfl))
             | ((with_reducible apply d_pure); rfl; (simp (disch := omega) [wrap64, hlt2, hlt]; exact Red.rfl); exact Red.rfl; (focus (first | (simp; done) | omega | (simp; omega))))
             | ((with_reducible apply d_read); rfl; rfl; (simp (disch := omega) [wrap64, hlt2, hlt]; exact Red.rfl); exact Red.rfl; (focus (first | (simp; done) | omega | (simp; omega))))
             | ((with_reducible apply d_read_); rfl; (simp (disch := omega) [wrap64, hlt2, hlt]; exact Red.rfl); exact Red.rfl; (focus (first | (simp; done) | omega | (simp; omega))); (focus (simp [repast, pr, AOp.sem]; done)))
             | ((with_reducible apply d_new); rfl; (simp (disch := omega) [wrap64, hlt2, hlt]; exact Red.rfl); exact Red.rfl; (focus (first | (simp; done) | omega | (simp; omega))); (focus (first | (simp; done) | (simp; omega))))
             | ((with_reducible first | apply d_do | apply d_set); rfl; rfl; rfl; (simp (disch := omega) [wrap64, hlt2, hlt]; exact Red.rfl); exact Red.rfl; (focus (first | (simp; done) | omega | (simp; omega))); (focus (first | (simp; done) | (simp; omega))); (focus (first | (simp; done) | (simp; omega)))))
            (with_reducible apply e_call); (simp; exact Red.rfl); exact c_Slope _ l id off i ex (by rw [rd_old _ hid]; exact hs) hv hlt
            rintro _ _ ⟨rfl, rfl⟩
            rw [← strAt_eq hlt]
            have gF := avL_get (f := fallF us l) hlt
            have gL := avL_get (f := longF us l) hlt
            have Li := longF_in hv us hlt
            have Fi := fallF_in hv us hlt
            obtain ⟨s0, s1, s2, s3, s4⟩ := slope_in Li.1 Li.2.1 Li.2.2.1 Fi.1 Fi.2.1 Fi.2.2.1
            have s5 : slopeHi (strAt l i) * longF us l i ≤ 6000000 * 30000 := by
              refine Int.mul_le_mul (by omega) (by omega) (by omega) (by omega)
            have s6 : ¬ fallF us l i * 1000 < slopeLo (strAt l i) * longF us l i := by omega
            have s7 : ¬ slopeHi (strAt l i) * longF us l i < fallF us l i * 1000 := by omega
            repeat (first
             | (with_reducible first | refine e_seq ?_ | refine e_ops ?_ | refine e_ret ?_ | refine e_exit ?_ | refine e_skip ?_ | refine e_block ?_ | refine e_scope ?_ | refine q_then ?_ | refine q_ret ?_ | refine q_exit ?_ | refine q_block ?_ | refine q_block_ret ?_ | refine q_block_exit ?_)
             | ((with_reducible apply q_block_other); decide)
             | (with_reducible first | refine q_again_ret ?_ | refine q_again_exit ?_ | refine q_scope ?_ | refine q_scope_ret ?_ | refine d_start ?_)
             | ((with_reducible first | apply e_end | apply d_end); (simp; exact Red.rfl))
             | ((with_reducible first | apply e_op | apply e_do); rfl; (simp (disch := omega) [wrap64, hlt3, hlt, avL_length, gF, gL, s6, s7]; exact Red.rfl); exact Red.rfl; (focus (first | (simp; done) | omega | (simp; omega))))
             | ((with_reducible first | apply e_yes | apply d_yes | apply e_true); (simp (disch := omega) [wrap64, hlt3, hlt, avL_length, gF, gL, s6, s7]; exact Red.rfl))
             | ((with_reducible first | apply e_no | apply d_no); (simp (disch := omega) [wrap64, hlt3, hlt, avL_length, gF, gL, s6, s7]; exact Red.rfl); decide)
             | ((with_reducible apply e_no'); (simp (disch := omega) [wrap64, hlt3, hlt, avL_length, gF, gL, s6, s7]; exact Red.rfl); decide)
             | ((with_reducible first | apply e_un | apply d_un | apply e_false); (simp (disch := omega) [wrap64, hlt3, hlt, avL_length, gF, gL, s6, s7]; exact Red.rfl))
             | ((with_reducible apply d_pure); rfl; (simp (disch := omega) [wrap64, hlt3, hlt, avL_length, gF, gL, s6, s7]; exact Red.rfl); exact Red.rfl; (focus (first | (simp; done) | omega | (simp; omega))))
             | ((with_reducible apply d_read); rfl; rfl; (simp (disch := omega) [wrap64, hlt3, hlt, avL_length, gF, gL, s6, s7]; exact Red.rfl); exact Red.rfl; (focus (first | (simp; done) | omega | (simp; omega))))
             | ((with_reducible apply d_read_); rfl; (simp (disch := omega) [wrap64, hlt3, hlt, avL_length, gF, gL, s6, s7]; exact Red.rfl); exact Red.rfl; (focus (first | (simp; done) | omega | (simp; omega))); (focus (simp [repast, pr, AOp.sem]; done)))
             | ((with_reducible apply d_new); rfl; (simp (disch := omega) [wrap64, hlt3, hlt, avL_length, gF, gL, s6, s7]; exact Red.rfl); exact Red.rfl; (focus (first | (simp; done) | omega | (simp; omega))); (focus (first | (simp; done) | (simp; omega))))
             | ((with_reducible first | apply d_do | apply d_set); rfl; rfl; rfl; (simp (disch := omega) [wrap64, hlt3, hlt, avL_length, gF, gL, s6, s7]; exact Red.rfl); exact Red.rfl; (focus (first | (simp; done) | omega | (simp; omega))); (focus (first | (simp; done) | (simp; omega))); (focus (first | (simp; done) | (simp; omega)))))
            refine e_loop (ι := { p : Nat × Bool // p.1 ≤ l.length ∧ (p.2 = true ↔ ∀ j, j < p.1 → fallF us l j * longF us l i ≤ fallF us l i * longF us l j) })
              (fun p => [(2, .ptr H.length 0), (5, .bool true), (8, .slice (H.length + 2) 0 l.length 1 false), (9, .slice (H.length + 3) 0 l.length 1 false), (10, .map (H.length + 4)), (13, .int .i64 i), (17, .bool p.1.2), (18, .bool (!p.1.2)), (80, .int .i64 l.length), (81, .int .i64 i), (120, .int .i64 l.length), (121, .int .i64 p.1.1)])
              (fun _ => H ++ [.cells [.slice id off l.length 9 ex] true, .cells (avN ks) true, .cells (avL (longF us l) l.length) true, .cells (avL (fallF us l) l.length) true, mp ks]) (fun p => l.length - p.1.1) ⟨(0, true), by simp⟩ ?_ ?_
            · exact .inr <| le_take (G := [_, _, _, _, _]) (G2 := [_]) (sc5 (by simp; omega)) (by simp [Red])
            · rintro ⟨⟨k, m⟩, hk, hm⟩
              dsimp only at hk hm ⊢
              by_cases hkl : k < l.length
              · have hkl2 : (k : Int) < l.length := by omega
                have hkl3 : k + 1 ≤ l.length := hkl
                have kF := avL_get (f := fallF us l) hkl
                have kL := avL_get (f := longF us l) hkl
                have Lk := longF_in hv us hkl
                have Fk := fallF_in hv us hkl
                have m1 : 0 ≤ fallF us l k * longF us l i := Int.mul_nonneg (by omega) (by omega)
                have m2 : fallF us l k * longF us l i ≤ 5000 * 30000 := Int.mul_le_mul (by omega) (by omega) (by omega) (by omega)
                have m3 : 0 ≤ fallF us l i * longF us l k := Int.mul_nonneg (by omega) (by omega)
                have m4 : fallF us l i * longF us l k ≤ 5000 * 30000 := Int.mul_le_mul (by omega) (by omega) (by omega) (by omega)
                have step : ∀ b : Bool, (b = true ↔ m = true ∧ fallF us l k * longF us l i ≤ fallF us l i * longF us l k) → (b = true ↔ ∀ j, j < k + 1 → fallF us l j * longF us l i ≤ fallF us l i * longF us l j) := by
                  intro b hb
                  rw [hb, hm]
                  constructor
                  · rintro ⟨h1, h2⟩ j hj
                    rcases Nat.lt_or_ge j k with h | h
                    · exact h1 j h
                    · obtain rfl : j = k := by omega
                      exact h2
                  · intro h
                    exact ⟨fun j hj => h j (by omega), h k (by omega)⟩
                cases m with
                | true =>
                  by_cases hP : fallF us l k * longF us l i ≤ fallF us l i * longF us l k
                  · have hP2 : ¬ fallF us l i * longF us l k < fallF us l k * longF us l i := by omega
                    repeat (first
                     | (with_reducible first | refine e_seq ?_ | refine e_ops ?_ | refine e_ret ?_ | refine e_exit ?_ | refine e_skip ?_ | refine e_block ?_ | refine e_scope ?_ | refine q_then ?_ | refine q_ret ?_ | refine q_exit ?_ | refine q_block ?_ | refine q_block_ret ?_ | refine q_block_exit ?_)
                     | ((with_reducible apply q_block_other); decide)
                     | (with_reducible first | refine q_again_ret ?_ | refine q_again_exit ?_ | refine q_scope ?_ | refine q_scope_ret ?_ | refine d_start ?_)
                     | ((with_reducible first | apply e_end | apply d_end); (simp; exact Red.rfl))
                     | ((with_reducible first | apply e_op | apply e_do); rfl; (simp (disch := omega) [wrap64, hlt3, hlt, hkl, hkl2, hkl3, avL_length, gF, gL, kF, kL, hP, hP2]; exact Red.rfl); exact Red.rfl; (focus (first | (simp; done) | omega | (simp; omega))))
                     | ((with_reducible first | apply e_yes | apply d_yes | apply e_true); (simp (disch := omega) [wrap64, hlt3, hlt, hkl, hkl2, hkl3, avL_length, gF, gL, kF, kL, hP, hP2]; exact Red.rfl))
                     | ((with_reducible first | apply e_no | apply d_no); (simp (disch := omega) [wrap64, hlt3, hlt, hkl, hkl2, hkl3, avL_length, gF, gL, kF, kL, hP, hP2]; exact Red.rfl); decide)
                     | ((with_reducible apply e_no'); (simp (disch := omega) [wrap64, hlt3, hlt, hkl, hkl2, hkl3, avL_length, gF, gL, kF, kL, hP, hP2]; exact Red.rfl); decide)
                     | ((with_reducible first | apply e_un | apply d_un | apply e_false); (simp (disch := omega) [wrap64, hlt3, hlt, hkl, hkl2, hkl3, avL_length, gF, gL, kF, kL, hP, hP2]; exact Red.rfl))
                     | ((with_reducible apply d_pure); rfl; (simp (disch := omega) [wrap64, hlt3, hlt, hkl, hkl2, hkl3, avL_length, gF, gL, kF, kL, hP, hP2]; exact Red.rfl); exact Red.rfl; (focus (first | (simp; done) | omega | (simp; omega))))
                     | ((with_reducible apply d_read); rfl; rfl; (simp (disch := omega) [wrap64, hlt3, hlt, hkl, hkl2, hkl3, avL_length, gF, gL, kF, kL, hP, hP2]; exact Red.rfl); exact Red.rfl; (focus (first | (simp; done) | omega | (simp; omega))))
                     | ((with_reducible apply d_read_); rfl; (simp (disch := omega) [wrap64, hlt3, hlt, hkl, hkl2, hkl3, avL_length, gF, gL, kF, kL, hP, hP2]; exact Red.rfl); exact Red.rfl; (focus (first | (simp; done) | omega | (simp; omega))); (focus (simp [repast, pr, AOp.sem]; done)))
                     | ((with_reducible apply d_new); rfl; (simp (disch := omega) [wrap64, hlt3, hlt, hkl, hkl2, hkl3, avL_length, gF, gL, kF, kL, hP, hP2]; exact Red.rfl); exact Red.rfl; (focus (first | (simp; done) | omega | (simp; omega))); (focus (first | (simp; done) | (simp; omega))))
                     | ((with_reducible first | apply d_do | apply d_set); rfl; rfl; rfl; (simp (disch := omega) [wrap64, hlt3, hlt, hkl, hkl2, hkl3, avL_length, gF, gL, kF, kL, hP, hP2]; exact Red.rfl); exact Red.rfl; (focus (first | (simp; done) | omega | (simp; omega))); (focus (first | (simp; done) | (simp; omega))); (focus (first | (simp; done) | (simp; omega)))))
                    exact q_again ⟨(k + 1, true), by dsimp only; omega, step true (by simp [hP])⟩ (by dsimp only; omega) (.inr <| le_same (G := [_, _, _, _, _]) (sc5 (by simp; omega)) (by simp [Red]))
                  · have hP2 : fallF us l i * longF us l k < fallF us l k * longF us l i := by omega
                    repeat (first
                     | (with_reducible first | refine e_seq ?_ | refine e_ops ?_ | refine e_ret ?_ | refine e_exit ?_ | refine e_skip ?_ | refine e_block ?_ | refine e_scope ?_ | refine q_then ?_ | refine q_ret ?_ | refine q_exit ?_ | refine q_block ?_ | refine q_block_ret ?_ | refine q_block_exit ?_)
                     | ((with_reducible apply q_block_other); decide)
                     | (with_reducible first | refine q_again_ret ?_ | refine q_again_exit ?_ | refine q_scope ?_ | refine q_scope_ret ?_ | refine d_start ?_)
                     | ((with_reducible first | apply e_end | apply d_end); (simp; exact Red.rfl))
                     | ((with_reducible first | apply e_op | apply e_do); rfl; (simp (disch := omega) [wrap64, hlt3, hlt, hkl, hkl2, hkl3, avL_length, gF, gL, kF, kL, hP, hP2]; exact Red.rfl); exact Red.rfl; (focus (first | (simp; done) | omega | (simp; omega))))
                     | ((with_reducible first | apply e_yes | apply d_yes | apply e_true); (simp (disch := omega) [wrap64, hlt3, hlt, hkl, hkl2, hkl3, avL_length, gF, gL, kF, kL, hP, hP2]; exact Red.rfl))
                     | ((with_reducible first | apply e_no | apply d_no); (simp (disch := omega) [wrap64, hlt3, hlt, hkl, hkl2, hkl3, avL_length, gF, gL, kF, kL, hP, hP2]; exact Red.rfl); decide)
                     | ((with_reducible apply e_no'); (simp (disch := omega) [wrap64, hlt3, hlt, hkl, hkl2, hkl3, avL_length, gF, gL, kF, kL, hP, hP2]; exact Red.rfl); decide)
                     | ((with_reducible first | apply e_un | apply d_un | apply e_false); (simp (disch := omega) [wrap64, hlt3, hlt, hkl, hkl2, hkl3, avL_length, gF, gL, kF, kL, hP, hP2]; exact Red.rfl))
                     | ((with_reducible apply d_pure); rfl; (simp (disch := omega) [wrap64, hlt3, hlt, hkl, hkl2, hkl3, avL_length, gF, gL, kF, kL, hP, hP2]; exact Red.rfl); exact Red.rfl; (focus (first | (simp; done) | omega | (simp; omega))))
                     | ((with_reducible apply d_read); rfl; rfl; (simp (disch := omega) [wrap64, hlt3, hlt, hkl, hkl2, hkl3, avL_length, gF, gL, kF, kL, hP, hP2]; exact Red.rfl); exact Red.rfl; (focus (first | (simp; done) | omega | (simp; omega))))
                     | ((with_reducible apply d_read_); rfl; (simp (disch := omega) [wrap64, hlt3, hlt, hkl, hkl2, hkl3, avL_length, gF, gL, kF, kL, hP, hP2]; exact Red.rfl); exact Red.rfl; (focus (first | (simp; done) | omega | (simp; omega))); (focus (simp [repast, pr, AOp.sem]; done)))
                     | ((with_reducible apply d_new); rfl; (simp (disch := omega) [wrap64, hlt3, hlt, hkl, hkl2, hkl3, avL_length, gF, gL, kF, kL, hP, hP2]; exact Red.rfl); exact Red.rfl; (focus (first | (simp; done) | omega | (simp; omega))); (focus (first | (simp; done) | (simp; omega))))
                     | ((with_reducible first | apply d_do | apply d_set); rfl; rfl; rfl; (simp (disch := omega) [wrap64, hlt3, hlt, hkl, hkl2, hkl3, avL_length, gF, gL, kF, kL, hP, hP2]; exact Red.rfl); exact Red.rfl; (focus (first | (simp; done) | omega | (simp; omega))); (focus (first | (simp; done) | (simp; omega))); (focus (first | (simp; done) | (simp; omega)))))
                    exact q_again ⟨(k + 1, false), by dsimp only; omega, step false (by simp [hP])⟩ (by dsimp only; omega) (.inr <| le_same (G := [_, _, _, _, _]) (sc5 (by simp; omega)) (by simp [Red]))
                | false =>
                  repeat (first
                   | (with_reducible first | refine e_seq ?_ | refine e_ops ?_ | refine e_ret ?_ | refine e_exit ?_ | refine e_skip ?_ | refine e_block ?_ | refine e_scope ?_ | refine q_then ?_ | refine q_ret ?_ | refine q_exit ?_ | refine q_block ?_ | refine q_block_ret ?_ | refine q_block_exit ?_)
                   | ((with_reducible apply q_block_other); decide)
                   | (with_reducible first | refine q_again_ret ?_ | refine q_again_exit ?_ | refine q_scope ?_ | refine q_scope_ret ?_ | refine d_start ?_)
                   | ((with_reducible first | apply e_end | apply d_end); (simp; exact Red.rfl))
                   | ((with_reducible first | apply e_op | apply e_do); rfl; (simp (disch := omega) [wrap64, hlt3, hlt, hkl, hkl2, hkl3, avL_length, gF, gL, kF, kL]; exact Red.rfl); exact Red.rfl; (focus (first | (simp; done) | omega | (simp; omega))))
                   | ((with_reducible first | apply e_yes | apply d_yes | apply e_true); (simp (disch := omega) [wrap64, hlt3, hlt, hkl, hkl2, hkl3, avL_length, gF, gL, kF, kL]; exact Red.rfl))
                   | ((with_reducible first | apply e_no | apply d_no); (simp (disch := omega) [wrap64, hlt3, hlt, hkl, hkl2, hkl3, avL_length, gF, gL, kF, kL]; exact Red.rfl); decide)
                   | ((with_reducible apply e_no'); (simp (disch := omega) [wrap64, hlt3, hlt, hkl, hkl2, hkl3, avL_length, gF, gL, kF, kL]; exact Red.rfl); decide)
                   | ((with_reducible first | apply e_un | apply d_un | apply e_false); (simp (disch := omega) [wrap64, hlt3, hlt, hkl, hkl2, hkl3, avL_length, gF, gL, kF, kL]; exact Red.rfl))
                   | ((with_reducible apply d_pure); rfl; (simp (disch := omega) [wrap64, hlt3, hlt, hkl, hkl2, hkl3, avL_length, gF, gL, kF, kL]; exact Red.rfl); exact Red.rfl; (focus (first | (simp; done) | omega | (simp; omega))))
                   | ((with_reducible apply d_read); rfl; rfl; (simp (disch := omega) [wrap64, hlt3, hlt, hkl, hkl2, hkl3, avL_length, gF, gL, kF, kL]; exact Red.rfl); exact Red.rfl; (focus (first | (simp; done) | omega | (simp; omega))))
                   | ((with_reducible apply d_read_); rfl; (simp (disch := omega) [wrap64, hlt3, hlt, hkl, hkl2, hkl3, avL_length, gF, gL, kF, kL]; exact Red.rfl); exact Red.rfl; (focus (first | (simp; done) | omega | (simp; omega))); (focus (simp [repast, pr, AOp.sem]; done)))
                   | ((with_reducible apply d_new); rfl; (simp (disch := omega) [wrap64, hlt3, hlt, hkl, hkl2, hkl3, avL_length, gF, gL, kF, kL]; exact Red.rfl); exact Red.rfl; (focus (first | (simp; done) | omega | (simp; omega))); (focus (first | (simp; done) | (simp; omega))))
                   | ((with_reducible first | apply d_do | apply d_set); rfl; rfl; rfl; (simp (disch := omega) [wrap64, hlt3, hlt, hkl, hkl2, hkl3, avL_length, gF, gL, kF, kL]; exact Red.rfl); exact Red.rfl; (focus (first | (simp; done) | omega | (simp; omega))); (focus (first | (simp; done) | (simp; omega))); (focus (first | (simp; done) | (simp; omega)))))
                  exact q_again ⟨(k + 1, false), by dsimp only; omega, step false (by simp)⟩ (by dsimp only; omega) (.inr <| le_same (G := [_, _, _, _, _]) (sc5 (by simp; omega)) (by simp [Red]))
              · have hkl2 : ¬ (k : Int) < l.length := by omega
                obtain rfl : k = l.length := by omega
                cases m with
                | true =>
                  have hin : i ∈ ks := (hmem i hlt).2 (most_sel hv us hlt (hm.1 rfl))
                  repeat (first
                   | (with_reducible first | refine e_seq ?_ | refine e_ops ?_ | refine e_ret ?_ | refine e_exit ?_ | refine e_skip ?_ | refine e_block ?_ | refine e_scope ?_ | refine q_then ?_ | refine q_ret ?_ | refine q_exit ?_ | refine q_block ?_ | refine q_block_ret ?_ | refine q_block_exit ?_)
                   | ((with_reducible apply q_block_other); decide)
                   | (with_reducible first | refine q_again_ret ?_ | refine q_again_exit ?_ | refine q_scope ?_ | refine q_scope_ret ?_ | refine d_start ?_)
                   | ((with_reducible first | apply e_end | apply d_end); (simp; exact Red.rfl))
                   | ((with_reducible first | apply e_op | apply e_do); rfl; (simp (disch := omega) [wrap64, hkl, hkl2]; exact Red.rfl); exact Red.rfl; (focus (first | (simp; done) | omega | (simp; omega))))
                   | ((with_reducible first | apply e_yes | apply d_yes | apply e_true); (simp (disch := omega) [wrap64, hkl, hkl2]; exact Red.rfl))
                   | ((with_reducible first | apply e_no | apply d_no); (simp (disch := omega) [wrap64, hkl, hkl2]; exact Red.rfl); decide)
                   | ((with_reducible apply e_no'); (simp (disch := omega) [wrap64, hkl, hkl2]; exact Red.rfl); decide)
                   | ((with_reducible first | apply e_un | apply d_un | apply e_false); (simp (disch := omega) [wrap64, hkl, hkl2]; exact Red.rfl))
                   | ((with_reducible apply d_pure); rfl; (simp (disch := omega) [wrap64, hkl, hkl2]; exact Red.rfl); exact Red.rfl; (focus (first | (simp; done) | omega | (simp; omega))))
                   | ((with_reducible apply d_read); rfl; rfl; (simp (disch := omega) [wrap64, hkl, hkl2]; exact Red.rfl); exact Red.rfl; (focus (first | (simp; done) | omega | (simp; omega))))
                   | ((with_reducible apply d_read_); rfl; (simp (disch := omega) [wrap64, hkl, hkl2]; exact Red.rfl); exact Red.rfl; (focus (first | (simp; done) | omega | (simp; omega))); (focus (simp [repast, pr, AOp.sem]; done)))
                   | ((with_reducible apply d_new); rfl; (simp (disch := omega) [wrap64, hkl, hkl2]; exact Red.rfl); exact Red.rfl; (focus (first | (simp; done) | omega | (simp; omega))); (focus (first | (simp; done) | (simp; omega))))
                   | ((with_reducible first | apply d_do | apply d_set); rfl; rfl; rfl; (simp (disch := omega) [wrap64, hkl, hkl2]; exact Red.rfl); exact Red.rfl; (focus (first | (simp; done) | omega | (simp; omega))); (focus (first | (simp; done) | (simp; omega))); (focus (first | (simp; done) | (simp; omega)))))
                  (with_reducible apply e_op); rfl; exact den_get (xs := ks) (k := i) rfl rfl (by rw [at_new]; rfl); exact Red.rfl; trivial
                  repeat (first
                   | (with_reducible first | refine e_seq ?_ | refine e_ops ?_ | refine e_ret ?_ | refine e_exit ?_ | refine e_skip ?_ | refine e_block ?_ | refine e_scope ?_ | refine q_then ?_ | refine q_ret ?_ | refine q_exit ?_ | refine q_block ?_ | refine q_block_ret ?_ | refine q_block_exit ?_)
                   | ((with_reducible apply q_block_other); decide)
                   | (with_reducible first | refine q_again_ret ?_ | refine q_again_exit ?_ | refine q_scope ?_ | refine q_scope_ret ?_ | refine d_start ?_)
                   | ((with_reducible first | apply e_end | apply d_end); (simp; exact Red.rfl))
                   | ((with_reducible first | apply e_op | apply e_do); rfl; (simp (disch := omega) [wrap64, hin]; exact Red.rfl); exact Red.rfl; (focus (first | (simp; done) | omega | (simp; omega))))
                   | ((with_reducible first | apply e_yes | apply d_yes | apply e_true); (simp (disch := omega) [wrap64, hin]; exact Red.rfl))
                   | ((with_reducible first | apply e_no | apply d_no); (simp (disch := omega) [wrap64, hin]; exact Red.rfl); decide)
                   | ((with_reducible apply e_no'); (simp (disch := omega) [wrap64, hin]; exact Red.rfl); decide)
                   | ((with_reducible first | apply e_un | apply d_un | apply e_false); (simp (disch := omega) [wrap64, hin]; exact Red.rfl))
                   | ((with_reducible apply d_pure); rfl; (simp (disch := omega) [wrap64, hin]; exact Red.rfl); exact Red.rfl; (focus (first | (simp; done) | omega | (simp; omega))))
                   | ((with_reducible apply d_read); rfl; rfl; (simp (disch := omega) [wrap64, hin]; exact Red.rfl); exact Red.rfl; (focus (first | (simp; done) | omega | (simp; omega))))
                   | ((with_reducible apply d_read_); rfl; (simp (disch := omega) [wrap64, hin]; exact Red.rfl); exact Red.rfl; (focus (first | (simp; done) | omega | (simp; omega))); (focus (simp [repast, pr, AOp.sem]; done)))
                   | ((with_reducible apply d_new); rfl; (simp (disch := omega) [wrap64, hin]; exact Red.rfl); exact Red.rfl; (focus (first | (simp; done) | omega | (simp; omega))); (focus (first | (simp; done) | (simp; omega))))
                   | ((with_reducible first | apply d_do | apply d_set); rfl; rfl; rfl; (simp (disch := omega) [wrap64, hin]; exact Red.rfl); exact Red.rfl; (focus (first | (simp; done) | omega | (simp; omega))); (focus (first | (simp; done) | (simp; omega))); (focus (first | (simp; done) | (simp; omega)))))
                  (with_reducible apply e_op); rfl; exact den_get (xs := ks) (k := i) rfl rfl (by rw [at_new]; rfl); exact Red.rfl; trivial
                  repeat (first
                   | (with_reducible first | refine e_seq ?_ | refine e_ops ?_ | refine e_ret ?_ | refine e_exit ?_ | refine e_skip ?_ | refine e_block ?_ | refine e_scope ?_ | refine q_then ?_ | refine q_ret ?_ | refine q_exit ?_ | refine q_block ?_ | refine q_block_ret ?_ | refine q_block_exit ?_)
                   | ((with_reducible apply q_block_other); decide)
                   | (with_reducible first | refine q_again_ret ?_ | refine q_again_exit ?_ | refine q_scope ?_ | refine q_scope_ret ?_ | refine d_start ?_)
                   | ((with_reducible first | apply e_end | apply d_end); (simp; exact Red.rfl))
                   | ((with_reducible first | apply e_op | apply e_do); rfl; (simp (disch := omega) [wrap64, hin]; exact Red.rfl); exact Red.rfl; (focus (first | (simp; done) | omega | (simp; omega))))
                   | ((with_reducible first | apply e_yes | apply d_yes | apply e_true); (simp (disch := omega) [wrap64, hin]; exact Red.rfl))
                   | ((with_reducible first | apply e_no | apply d_no); (simp (disch := omega) [wrap64, hin]; exact Red.rfl); decide)
                   | ((with_reducible apply e_no'); (simp (disch := omega) [wrap64, hin]; exact Red.rfl); decide)
                   | ((with_reducible first | apply e_un | apply d_un | apply e_false); (simp (disch := omega) [wrap64, hin]; exact Red.rfl))
                   | ((with_reducible apply d_pure); rfl; (simp (disch := omega) [wrap64, hin]; exact Red.rfl); exact Red.rfl; (focus (first | (simp; done) | omega | (simp; omega))))
                   | ((with_reducible apply d_read); rfl; rfl; (simp (disch := omega) [wrap64, hin]; exact Red.rfl); exact Red.rfl; (focus (first | (simp; done) | omega | (simp; omega))))
                   | ((with_reducible apply d_read_); rfl; (simp (disch := omega) [wrap64, hin]; exact Red.rfl); exact Red.rfl; (focus (first | (simp; done) | omega | (simp; omega))); (focus (simp [repast, pr, AOp.sem]; done)))
                   | ((with_reducible apply d_new); rfl; (simp (disch := omega) [wrap64, hin]; exact Red.rfl); exact Red.rfl; (focus (first | (simp; done) | omega | (simp; omega))); (focus (first | (simp; done) | (simp; omega))))
                   | ((with_reducible first | apply d_do | apply d_set); rfl; rfl; rfl; (simp (disch := omega) [wrap64, hin]; exact Red.rfl); exact Red.rfl; (focus (first | (simp; done) | omega | (simp; omega))); (focus (first | (simp; done) | (simp; omega))); (focus (first | (simp; done) | (simp; omega)))))
                  exact q_again ⟨i + 1, by omega⟩ (by dsimp only; omega) (.inr <| le_same (G := [_, _, _, _, _]) (sc5 (by simp; omega)) (by simp [Red]))
                | false =>
                  repeat (first
                   | (with_reducible first | refine e_seq ?_ | refine e_ops ?_ | refine e_ret ?_ | refine e_exit ?_ | refine e_skip ?_ | refine e_block ?_ | refine e_scope ?_ | refine q_then ?_ | refine q_ret ?_ | refine q_exit ?_ | refine q_block ?_ | refine q_block_ret ?_ | refine q_block_exit ?_)
                   | ((with_reducible apply q_block_other); decide)
                   | (with_reducible first | refine q_again_ret ?_ | refine q_again_exit ?_ | refine q_scope ?_ | refine q_scope_ret ?_ | refine d_start ?_)
                   | ((with_reducible first | apply e_end | apply d_end); (simp; exact Red.rfl))
                   | ((with_reducible first | apply e_op | apply e_do); rfl; (simp (disch := omega) [wrap64, hkl, hkl2]; exact Red.rfl); exact Red.rfl; (focus (first | (simp; done) | omega | (simp; omega))))
                   | ((with_reducible first | apply e_yes | apply d_yes | apply e_true); (simp (disch := omega) [wrap64, hkl, hkl2]; exact Red.rfl))
                   | ((with_reducible first | apply e_no | apply d_no); (simp (disch := omega) [wrap64, hkl, hkl2]; exact Red.rfl); decide)
                   | ((with_reducible apply e_no'); (simp (disch := omega) [wrap64, hkl, hkl2]; exact Red.rfl); decide)
                   | ((with_reducible first | apply e_un | apply d_un | apply e_false); (simp (disch := omega) [wrap64, hkl, hkl2]; exact Red.rfl))
                   | ((with_reducible apply d_pure); rfl; (simp (disch := omega) [wrap64, hkl, hkl2]; exact Red.rfl); exact Red.rfl; (focus (first | (simp; done) | omega | (simp; omega))))
                   | ((with_reducible apply d_read); rfl; rfl; (simp (disch := omega) [wrap64, hkl, hkl2]; exact Red.rfl); exact Red.rfl; (focus (first | (simp; done) | omega | (simp; omega))))
                   | ((with_reducible apply d_read_); rfl; (simp (disch := omega) [wrap64, hkl, hkl2]; exact Red.rfl); exact Red.rfl; (focus (first | (simp; done) | omega | (simp; omega))); (focus (simp [repast, pr, AOp.sem]; done)))
                   | ((with_reducible apply d_new); rfl; (simp (disch := omega) [wrap64, hkl, hkl2]; exact Red.rfl); exact Red.rfl; (focus (first | (simp; done) | omega | (simp; omega))); (focus (first | (simp; done) | (simp; omega))))
                   | ((with_reducible first | apply d_do | apply d_set); rfl; rfl; rfl; (simp (disch := omega) [wrap64, hkl, hkl2]; exact Red.rfl); exact Red.rfl; (focus (first | (simp; done) | omega | (simp; omega))); (focus (first | (simp; done) | (simp; omega))); (focus (first | (simp; done) | (simp; omega)))))
                  (with_reducible apply e_op); rfl; exact den_get (xs := ks) (k := i) rfl rfl (by rw [at_new]; rfl); exact Red.rfl; trivial
                  by_cases hin : i ∈ ks
                  · repeat (first
                     | (with_reducible first | refine e_seq ?_ | refine e_ops ?_ | refine e_ret ?_ | refine e_exit ?_ | refine e_skip ?_ | refine e_block ?_ | refine e_scope ?_ | refine q_then ?_ | refine q_ret ?_ | refine q_exit ?_ | refine q_block ?_ | refine q_block_ret ?_ | refine q_block_exit ?_)
                     | ((with_reducible apply q_block_other); decide)
                     | (with_reducible first | refine q_again_ret ?_ | refine q_again_exit ?_ | refine q_scope ?_ | refine q_scope_ret ?_ | refine d_start ?_)
                     | ((with_reducible first | apply e_end | apply d_end); (simp; exact Red.rfl))
                     | ((with_reducible first | apply e_op | apply e_do); rfl; (simp (disch := omega) [wrap64, hin]; exact Red.rfl); exact Red.rfl; (focus (first | (simp; done) | omega | (simp; omega))))
                     | ((with_reducible first | apply e_yes | apply d_yes | apply e_true); (simp (disch := omega) [wrap64, hin]; exact Red.rfl))
                     | ((with_reducible first | apply e_no | apply d_no); (simp (disch := omega) [wrap64, hin]; exact Red.rfl); decide)
                     | ((with_reducible apply e_no'); (simp (disch := omega) [wrap64, hin]; exact Red.rfl); decide)
                     | ((with_reducible first | apply e_un | apply d_un | apply e_false); (simp (disch := omega) [wrap64, hin]; exact Red.rfl))
                     | ((with_reducible apply d_pure); rfl; (simp (disch := omega) [wrap64, hin]; exact Red.rfl); exact Red.rfl; (focus (first | (simp; done) | omega | (simp; omega))))
                     | ((with_reducible apply d_read); rfl; rfl; (simp (disch := omega) [wrap64, hin]; exact Red.rfl); exact Red.rfl; (focus (first | (simp; done) | omega | (simp; omega))))
                     | ((with_reducible apply d_read_); rfl; (simp (disch := omega) [wrap64, hin]; exact Red.rfl); exact Red.rfl; (focus (first | (simp; done) | omega | (simp; omega))); (focus (simp [repast, pr, AOp.sem]; done)))
                     | ((with_reducible apply d_new); rfl; (simp (disch := omega) [wrap64, hin]; exact Red.rfl); exact Red.rfl; (focus (first | (simp; done) | omega | (simp; omega))); (focus (first | (simp; done) | (simp; omega))))
                     | ((with_reducible first | apply d_do | apply d_set); rfl; rfl; rfl; (simp (disch := omega) [wrap64, hin]; exact Red.rfl); exact Red.rfl; (focus (first | (simp; done) | omega | (simp; omega))); (focus (first | (simp; done) | (simp; omega))); (focus (first | (simp; done) | (simp; omega)))))
                    exact q_again ⟨i + 1, by omega⟩ (by dsimp only; omega) (.inr <| le_same (G := [_, _, _, _, _]) (sc5 (by simp; omega)) (by simp [Red]))
                  · repeat (first
                     | (with_reducible first | refine e_seq ?_ | refine e_ops ?_ | refine e_ret ?_ | refine e_exit ?_ | refine e_skip ?_ | refine e_block ?_ | refine e_scope ?_ | refine q_then ?_ | refine q_ret ?_ | refine q_exit ?_ | refine q_block ?_ | refine q_block_ret ?_ | refine q_block_exit ?_)
                     | ((with_reducible apply q_block_other); decide)
                     | (with_reducible first | refine q_again_ret ?_ | refine q_again_exit ?_ | refine q_scope ?_ | refine q_scope_ret ?_ | refine d_start ?_)
                     | ((with_reducible first | apply e_end | apply d_end); (simp; exact Red.rfl))
                     | ((with_reducible first | apply e_op | apply e_do); rfl; (simp (disch := omega) [wrap64, hin]; exact Red.rfl); exact Red.rfl; (focus (first | (simp; done) | omega | (simp; omega))))
                     | ((with_reducible first | apply e_yes | apply d_yes | apply e_true); (simp (disch := omega) [wrap64, hin]; exact Red.rfl))
                     | ((with_reducible first | apply e_no | apply d_no); (simp (disch := omega) [wrap64, hin]; exact Red.rfl); decide)
                     | ((with_reducible apply e_no'); (simp (disch := omega) [wrap64, hin]; exact Red.rfl); decide)
                     | ((with_reducible first | apply e_un | apply d_un | apply e_false); (simp (disch := omega) [wrap64, hin]; exact Red.rfl))
                     | ((with_reducible apply d_pure); rfl; (simp (disch := omega) [wrap64, hin]; exact Red.rfl); exact Red.rfl; (focus (first | (simp; done) | omega | (simp; omega))))
                     | ((with_reducible apply d_read); rfl; rfl; (simp (disch := omega) [wrap64, hin]; exact Red.rfl); exact Red.rfl; (focus (first | (simp; done) | omega | (simp; omega))))
                     | ((with_reducible apply d_read_); rfl; (simp (disch := omega) [wrap64, hin]; exact Red.rfl); exact Red.rfl; (focus (first | (simp; done) | omega | (simp; omega))); (focus (simp [repast, pr, AOp.sem]; done)))
                     | ((with_reducible apply d_new); rfl; (simp (disch := omega) [wrap64, hin]; exact Red.rfl); exact Red.rfl; (focus (first | (simp; done) | omega | (simp; omega))); (focus (first | (simp; done) | (simp; omega))))
                     | ((with_reducible first | apply d_do | apply d_set); rfl; rfl; rfl; (simp (disch := omega) [wrap64, hin]; exact Red.rfl); exact Red.rfl; (focus (first | (simp; done) | omega | (simp; omega))); (focus (first | (simp; done) | (simp; omega))); (focus (first | (simp; done) | (simp; omega)))))
                    exact q_again ⟨i + 1, by omega⟩ (by dsimp only; omega) (.inr <| le_same (G := [_, _, _, _, _]) (sc5 (by simp; omega)) (by simp [Red]))
          · have hlt2 : ¬ (i : Int) < l.length := by omega
            repeat (first
             | (with_reducible first | refine e_seq ?_ | refine e_ops ?_ | refine e_ret ?_ | refine e_exit ?_ | refine e_skip ?_ | refine e_block ?_ | refine e_scope ?_ | refine q_then ?_ | refine q_ret ?_ | refine q_exit ?_ | refine q_block ?_ | refine q_block_ret ?_ | refine q_block_exit ?_)
             | ((with_reducible apply q_block_other); decide)
             | (with_reducible first | refine q_again_ret ?_ | refine q_again_exit ?_ | refine q_scope ?_ | refine q_scope_ret ?_ | refine d_start ?_)
             | ((with_reducible first | apply e_end | apply d_end); (simp; exact Red.rfl))
             | ((with_reducible first | apply e_op | apply e_do); rfl; (simp (disch := omega) [wrap64, hlt2, hlt]; exact Red.rfl); exact Red.rfl; (focus (first | (simp; done) | omega | (simp; omega))))
             | ((with_reducible first | apply e_yes | apply d_yes | apply e_true); (simp (disch := omega) [wrap64, hlt2, hlt]; exact Red.rfl))
             | ((with_reducible first | apply e_no | apply d_no); (simp (disch := omega) [wrap64, hlt2, hlt]; exact Red.rfl); decide)
             | ((with_reducible apply e_no'); (simp (disch := omega) [wrap64, hlt2, hlt]; exact Red.rfl); decide)
             | ((with_reducible first | apply e_un | apply d_un | apply e_false); (simp (disch := omega) [wrap64, hlt2, hlt]; exact Red.rfl))
             | ((with_reducible apply d_pure); rfl; (simp (disch := omega) [wrap64, hlt2, hlt]; exact Red.rfl); exact Red.rfl; (focus (first | (simp; done) | omega | (simp; omega))))
             | ((with_reducible apply d_read); rfl; rfl; (simp (disch := omega) [wrap64, hlt2, hlt]; exact Red.rfl); exact Red.rfl; (focus (first | (simp; done) | omega | (simp; omega))))
             | ((with_reducible apply d_read_); rfl; (simp (disch := omega) [wrap64, hlt2, hlt]; exact Red.rfl); exact Red.rfl; (focus (first | (simp; done) | omega | (simp; omega))); (focus (simp [repast, pr, AOp.sem]; done)))
             | ((with_reducible apply d_new); rfl; (simp (disch := omega) [wrap64, hlt2, hlt]; exact Red.rfl); exact Red.rfl; (focus (first | (simp; done) | omega | (simp; omega))); (focus (first | (simp; done) | (simp; omega))))
             | ((with_reducible first | apply d_do | apply d_set); rfl; rfl; rfl; (simp (disch := omega) [wrap64, hlt2, hlt]; exact Red.rfl); exact Red.rfl; (focus (first | (simp; done) | omega | (simp; omega))); (focus (first | (simp; done) | (simp; omega))); (focus (first | (simp; done) | (simp; omega)))))
            exact q_drop (.inr rfl) (by simp; exact Red.rfl) (by simp) rfl
end Go.Proofs
