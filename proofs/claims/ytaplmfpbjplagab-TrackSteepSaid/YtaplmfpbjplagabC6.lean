/- Contracts of the reference: what is within bounds, and what is great. -/
import Derived.Test.YtaplmfpbjplagabC5
namespace Go.Proofs
open Go.Abs
attribute [local simp] AOp.den AOpd.ev lk cellsOf rd_new rd_new0 rd_zero rd_succ wr_new wr_new0 wr_zero wr_succ splice fillA binA scal sliceCells List.length_append argsT AV.sc scL AObj.sc resV getAll AR.get AOp.slots opdSlots opdsSlots partSlots eqAt
set_option linter.unusedSimpArgs false
set_option linter.unusedVariables false

theorem c_rwithin (H : Heap) (n lo hi : Int) : ACalls Try.prog F.ref01_within [.int .i64 n, .int .i64 lo, .int .i64 hi] H (fun v h' => v = .bool (decide (lo ≤ n ∧ n ≤ hi)) ∧ h' = H) := by
  refine acalls_of ok_ref01_within rfl fun hcl => ?_
  unfold ac_ref01_within
  simp only [argsT, Nat.zero_add, Nat.reduceAdd]
  repeat (first
   | (with_reducible first | refine e_seq ?_ | refine e_ops ?_ | refine e_ret ?_ | refine e_exit ?_ | refine e_skip ?_ | refine e_block ?_ | refine e_scope ?_ | refine q_then ?_ | refine q_ret ?_ | refine q_exit ?_ | refine q_block ?_ | refine q_block_ret ?_ | refine q_block_exit ?_)
   | ((with_reducible apply q_block_other); decide)
   | (with_reducible first | refine q_again_ret ?_ | refine q_again_exit ?_ | refine q_scope ?_ | refine q_scope_ret ?_ | refine d_start ?_)
   | ((with_reducible first | apply e_end | apply d_end); (simp; exact Red.rfl))
   | ((with_reducible first | apply e_op | apply e_do); rfl; (simp (disch := omega) [wrap64]; exact Red.rfl); exact Red.rfl; (focus (first | (simp; done) | omega | (simp; omega))))
   | ((with_reducible first | apply e_yes | apply d_yes | apply e_true); (simp (disch := omega) [wrap64]; exact Red.rfl))
   | ((with_reducible first | apply e_no | apply d_no); (simp (disch := omega) [wrap64]; exact Red.rfl); decide)
   | ((with_reducible apply e_no'); (simp (disch := omega) [wrap64]; exact Red.rfl); decide)
   | ((with_reducible first | apply e_un | apply d_un | apply e_false); (simp (disch := omega) [wrap64]; exact Red.rfl))
   | ((with_reducible apply d_pure); rfl; (simp (disch := omega) [wrap64]; exact Red.rfl); exact Red.rfl; (focus (first | (simp; done) | omega | (simp; omega))))
   | ((with_reducible apply d_read); rfl; rfl; (simp (disch := omega) [wrap64]; exact Red.rfl); exact Red.rfl; (focus (first | (simp; done) | omega | (simp; omega))))
   | ((with_reducible apply d_read_); rfl; (simp (disch := omega) [wrap64]; exact Red.rfl); exact Red.rfl; (focus (first | (simp; done) | omega | (simp; omega))); (focus (simp [repast, pr, AOp.sem]; done)))
   | ((with_reducible apply d_new); rfl; (simp (disch := omega) [wrap64]; exact Red.rfl); exact Red.rfl; (focus (first | (simp; done) | omega | (simp; omega))); (focus (first | (simp; done) | (simp; omega))))
   | ((with_reducible first | apply d_do | apply d_set); rfl; rfl; rfl; (simp (disch := omega) [wrap64]; exact Red.rfl); exact Red.rfl; (focus (first | (simp; done) | omega | (simp; omega))); (focus (first | (simp; done) | (simp; omega))); (focus (first | (simp; done) | (simp; omega)))))
  (with_reducible apply g_yes); (simp; exact Red.rfl)
  · intro h1
    repeat (first
     | (with_reducible first | refine e_seq ?_ | refine e_ops ?_ | refine e_ret ?_ | refine e_exit ?_ | refine e_skip ?_ | refine e_block ?_ | refine e_scope ?_ | refine q_then ?_ | refine q_ret ?_ | refine q_exit ?_ | refine q_block ?_ | refine q_block_ret ?_ | refine q_block_exit ?_)
     | ((with_reducible apply q_block_other); decide)
     | (with_reducible first | refine q_again_ret ?_ | refine q_again_exit ?_ | refine q_scope ?_ | refine q_scope_ret ?_ | refine d_start ?_)
     | ((with_reducible first | apply e_end | apply d_end); (simp; exact Red.rfl))
     | ((with_reducible first | apply e_op | apply e_do); rfl; (simp (disch := omega) [wrap64, h1]; exact Red.rfl); exact Red.rfl; (focus (first | (simp; done) | omega | (simp; omega))))
     | ((with_reducible first | apply e_yes | apply d_yes | apply e_true); (simp (disch := omega) [wrap64, h1]; exact Red.rfl))
     | ((with_reducible first | apply e_no | apply d_no); (simp (disch := omega) [wrap64, h1]; exact Red.rfl); decide)
     | ((with_reducible apply e_no'); (simp (disch := omega) [wrap64, h1]; exact Red.rfl); decide)
     | ((with_reducible first | apply e_un | apply d_un | apply e_false); (simp (disch := omega) [wrap64, h1]; exact Red.rfl))
     | ((with_reducible apply d_pure); rfl; (simp (disch := omega) [wrap64, h1]; exact Red.rfl); exact Red.rfl; (focus (first | (simp; done) | omega | (simp; omega))))
     | ((with_reducible apply d_read); rfl; rfl; (simp (disch := omega) [wrap64, h1]; exact Red.rfl); exact Red.rfl; (focus (first | (simp; done) | omega | (simp; omega))))
     | ((with_reducible apply d_read_); rfl; (simp (disch := omega) [wrap64, h1]; exact Red.rfl); exact Red.rfl; (focus (first | (simp; done) | omega | (simp; omega))); (focus (simp [repast, pr, AOp.sem]; done)))
     | ((with_reducible apply d_new); rfl; (simp (disch := omega) [wrap64, h1]; exact Red.rfl); exact Red.rfl; (focus (first | (simp; done) | omega | (simp; omega))); (focus (first | (simp; done) | (simp; omega))))
     | ((with_reducible first | apply d_do | apply d_set); rfl; rfl; rfl; (simp (disch := omega) [wrap64, h1]; exact Red.rfl); exact Red.rfl; (focus (first | (simp; done) | omega | (simp; omega))); (focus (first | (simp; done) | (simp; omega))); (focus (first | (simp; done) | (simp; omega)))))
    refine q_drop0 (.inr rfl) (by simp; exact Red.rfl) (by simp) ⟨by simp [h1], rfl⟩
  · intro h1
    repeat (first
     | (with_reducible first | refine e_seq ?_ | refine e_ops ?_ | refine e_ret ?_ | refine e_exit ?_ | refine e_skip ?_ | refine e_block ?_ | refine e_scope ?_ | refine q_then ?_ | refine q_ret ?_ | refine q_exit ?_ | refine q_block ?_ | refine q_block_ret ?_ | refine q_block_exit ?_)
     | ((with_reducible apply q_block_other); decide)
     | (with_reducible first | refine q_again_ret ?_ | refine q_again_exit ?_ | refine q_scope ?_ | refine q_scope_ret ?_ | refine d_start ?_)
     | ((with_reducible first | apply e_end | apply d_end); (simp; exact Red.rfl))
     | ((with_reducible first | apply e_op | apply e_do); rfl; (simp (disch := omega) [wrap64, h1]; exact Red.rfl); exact Red.rfl; (focus (first | (simp; done) | omega | (simp; omega))))
     | ((with_reducible first | apply e_yes | apply d_yes | apply e_true); (simp (disch := omega) [wrap64, h1]; exact Red.rfl))
     | ((with_reducible first | apply e_no | apply d_no); (simp (disch := omega) [wrap64, h1]; exact Red.rfl); decide)
     | ((with_reducible apply e_no'); (simp (disch := omega) [wrap64, h1]; exact Red.rfl); decide)
     | ((with_reducible first | apply e_un | apply d_un | apply e_false); (simp (disch := omega) [wrap64, h1]; exact Red.rfl))
     | ((with_reducible apply d_pure); rfl; (simp (disch := omega) [wrap64, h1]; exact Red.rfl); exact Red.rfl; (focus (first | (simp; done) | omega | (simp; omega))))
     | ((with_reducible apply d_read); rfl; rfl; (simp (disch := omega) [wrap64, h1]; exact Red.rfl); exact Red.rfl; (focus (first | (simp; done) | omega | (simp; omega))))
     | ((with_reducible apply d_read_); rfl; (simp (disch := omega) [wrap64, h1]; exact Red.rfl); exact Red.rfl; (focus (first | (simp; done) | omega | (simp; omega))); (focus (simp [repast, pr, AOp.sem]; done)))
     | ((with_reducible apply d_new); rfl; (simp (disch := omega) [wrap64, h1]; exact Red.rfl); exact Red.rfl; (focus (first | (simp; done) | omega | (simp; omega))); (focus (first | (simp; done) | (simp; omega))))
     | ((with_reducible first | apply d_do | apply d_set); rfl; rfl; rfl; (simp (disch := omega) [wrap64, h1]; exact Red.rfl); exact Red.rfl; (focus (first | (simp; done) | omega | (simp; omega))); (focus (first | (simp; done) | (simp; omega))); (focus (first | (simp; done) | (simp; omega)))))
    refine q_drop0 (.inr rfl) (by simp; exact Red.rfl) (by simp) ⟨by simp [h1], rfl⟩

theorem c_rspan (H : Heap) (a b lo hi : Int) : ACalls Try.prog F.ref01_span [.agg [.int .i64 a, .int .i64 b], .int .i64 lo, .int .i64 hi] H (fun v h' => v = .bool (decide (a ≤ b ∧ lo ≤ a ∧ b ≤ hi)) ∧ h' = H) := by
  refine acalls_of ok_ref01_span rfl fun hcl => ?_
  unfold ac_ref01_span
  simp only [argsT, Nat.zero_add, Nat.reduceAdd]
  repeat (first
   | (with_reducible first | refine e_seq ?_ | refine e_ops ?_ | refine e_ret ?_ | refine e_exit ?_ | refine e_skip ?_ | refine e_block ?_ | refine e_scope ?_ | refine q_then ?_ | refine q_ret ?_ | refine q_exit ?_ | refine q_block ?_ | refine q_block_ret ?_ | refine q_block_exit ?_)
   | ((with_reducible apply q_block_other); decide)
   | (with_reducible first | refine q_again_ret ?_ | refine q_again_exit ?_ | refine q_scope ?_ | refine q_scope_ret ?_ | refine d_start ?_)
   | ((with_reducible first | apply e_end | apply d_end); (simp; exact Red.rfl))
   | ((with_reducible first | apply e_op | apply e_do); rfl; (simp (disch := omega) [wrap64]; exact Red.rfl); exact Red.rfl; (focus (first | (simp; done) | omega | (simp; omega))))
   | ((with_reducible first | apply e_yes | apply d_yes | apply e_true); (simp (disch := omega) [wrap64]; exact Red.rfl))
   | ((with_reducible first | apply e_no | apply d_no); (simp (disch := omega) [wrap64]; exact Red.rfl); decide)
   | ((with_reducible apply e_no'); (simp (disch := omega) [wrap64]; exact Red.rfl); decide)
   | ((with_reducible first | apply e_un | apply d_un | apply e_false); (simp (disch := omega) [wrap64]; exact Red.rfl))
   | ((with_reducible apply d_pure); rfl; (simp (disch := omega) [wrap64]; exact Red.rfl); exact Red.rfl; (focus (first | (simp; done) | omega | (simp; omega))))
   | ((with_reducible apply d_read); rfl; rfl; (simp (disch := omega) [wrap64]; exact Red.rfl); exact Red.rfl; (focus (first | (simp; done) | omega | (simp; omega))))
   | ((with_reducible apply d_read_); rfl; (simp (disch := omega) [wrap64]; exact Red.rfl); exact Red.rfl; (focus (first | (simp; done) | omega | (simp; omega))); (focus (simp [repast, pr, AOp.sem]; done)))
   | ((with_reducible apply d_new); rfl; (simp (disch := omega) [wrap64]; exact Red.rfl); exact Red.rfl; (focus (first | (simp; done) | omega | (simp; omega))); (focus (first | (simp; done) | (simp; omega))))
   | ((with_reducible first | apply d_do | apply d_set); rfl; rfl; rfl; (simp (disch := omega) [wrap64]; exact Red.rfl); exact Red.rfl; (focus (first | (simp; done) | omega | (simp; omega))); (focus (first | (simp; done) | (simp; omega))); (focus (first | (simp; done) | (simp; omega)))))
  (with_reducible apply e_call); (simp; exact Red.rfl); exact c_rwithin _ _ _ _
  rintro _ _ ⟨rfl, rfl⟩
  repeat (first
   | (with_reducible first | refine e_seq ?_ | refine e_ops ?_ | refine e_ret ?_ | refine e_exit ?_ | refine e_skip ?_ | refine e_block ?_ | refine e_scope ?_ | refine q_then ?_ | refine q_ret ?_ | refine q_exit ?_ | refine q_block ?_ | refine q_block_ret ?_ | refine q_block_exit ?_)
   | ((with_reducible apply q_block_other); decide)
   | (with_reducible first | refine q_again_ret ?_ | refine q_again_exit ?_ | refine q_scope ?_ | refine q_scope_ret ?_ | refine d_start ?_)
   | ((with_reducible first | apply e_end | apply d_end); (simp; exact Red.rfl))
   | ((with_reducible first | apply e_op | apply e_do); rfl; (simp (disch := omega) [wrap64, -Bool.decide_and]; exact Red.rfl); exact Red.rfl; (focus (first | (simp; done) | omega | (simp; omega))))
   | ((with_reducible first | apply e_yes | apply d_yes | apply e_true); (simp (disch := omega) [wrap64, -Bool.decide_and]; exact Red.rfl))
   | ((with_reducible first | apply e_no | apply d_no); (simp (disch := omega) [wrap64, -Bool.decide_and]; exact Red.rfl); decide)
   | ((with_reducible apply e_no'); (simp (disch := omega) [wrap64, -Bool.decide_and]; exact Red.rfl); decide)
   | ((with_reducible first | apply e_un | apply d_un | apply e_false); (simp (disch := omega) [wrap64, -Bool.decide_and]; exact Red.rfl))
   | ((with_reducible apply d_pure); rfl; (simp (disch := omega) [wrap64, -Bool.decide_and]; exact Red.rfl); exact Red.rfl; (focus (first | (simp; done) | omega | (simp; omega))))
   | ((with_reducible apply d_read); rfl; rfl; (simp (disch := omega) [wrap64, -Bool.decide_and]; exact Red.rfl); exact Red.rfl; (focus (first | (simp; done) | omega | (simp; omega))))
   | ((with_reducible apply d_read_); rfl; (simp (disch := omega) [wrap64, -Bool.decide_and]; exact Red.rfl); exact Red.rfl; (focus (first | (simp; done) | omega | (simp; omega))); (focus (simp [repast, pr, AOp.sem]; done)))
   | ((with_reducible apply d_new); rfl; (simp (disch := omega) [wrap64, -Bool.decide_and]; exact Red.rfl); exact Red.rfl; (focus (first | (simp; done) | omega | (simp; omega))); (focus (first | (simp; done) | (simp; omega))))
   | ((with_reducible first | apply d_do | apply d_set); rfl; rfl; rfl; (simp (disch := omega) [wrap64, -Bool.decide_and]; exact Red.rfl); exact Red.rfl; (focus (first | (simp; done) | omega | (simp; omega))); (focus (first | (simp; done) | (simp; omega))); (focus (first | (simp; done) | (simp; omega)))))
  (with_reducible apply g_yes); (simp [-Bool.decide_and]; exact Red.rfl)
  · intro h1
    repeat (first
     | (with_reducible first | refine e_seq ?_ | refine e_ops ?_ | refine e_ret ?_ | refine e_exit ?_ | refine e_skip ?_ | refine e_block ?_ | refine e_scope ?_ | refine q_then ?_ | refine q_ret ?_ | refine q_exit ?_ | refine q_block ?_ | refine q_block_ret ?_ | refine q_block_exit ?_)
     | ((with_reducible apply q_block_other); decide)
     | (with_reducible first | refine q_again_ret ?_ | refine q_again_exit ?_ | refine q_scope ?_ | refine q_scope_ret ?_ | refine d_start ?_)
     | ((with_reducible first | apply e_end | apply d_end); (simp; exact Red.rfl))
     | ((with_reducible first | apply e_op | apply e_do); rfl; (simp (disch := omega) [wrap64, h1]; exact Red.rfl); exact Red.rfl; (focus (first | (simp; done) | omega | (simp; omega))))
     | ((with_reducible first | apply e_yes | apply d_yes | apply e_true); (simp (disch := omega) [wrap64, h1]; exact Red.rfl))
     | ((with_reducible first | apply e_no | apply d_no); (simp (disch := omega) [wrap64, h1]; exact Red.rfl); decide)
     | ((with_reducible apply e_no'); (simp (disch := omega) [wrap64, h1]; exact Red.rfl); decide)
     | ((with_reducible first | apply e_un | apply d_un | apply e_false); (simp (disch := omega) [wrap64, h1]; exact Red.rfl))
     | ((with_reducible apply d_pure); rfl; (simp (disch := omega) [wrap64, h1]; exact Red.rfl); exact Red.rfl; (focus (first | (simp; done) | omega | (simp; omega))))
     | ((with_reducible apply d_read); rfl; rfl; (simp (disch := omega) [wrap64, h1]; exact Red.rfl); exact Red.rfl; (focus (first | (simp; done) | omega | (simp; omega))))
     | ((with_reducible apply d_read_); rfl; (simp (disch := omega) [wrap64, h1]; exact Red.rfl); exact Red.rfl; (focus (first | (simp; done) | omega | (simp; omega))); (focus (simp [repast, pr, AOp.sem]; done)))
     | ((with_reducible apply d_new); rfl; (simp (disch := omega) [wrap64, h1]; exact Red.rfl); exact Red.rfl; (focus (first | (simp; done) | omega | (simp; omega))); (focus (first | (simp; done) | (simp; omega))))
     | ((with_reducible first | apply d_do | apply d_set); rfl; rfl; rfl; (simp (disch := omega) [wrap64, h1]; exact Red.rfl); exact Red.rfl; (focus (first | (simp; done) | omega | (simp; omega))); (focus (first | (simp; done) | (simp; omega))); (focus (first | (simp; done) | (simp; omega)))))
    refine q_drop (.inr rfl) (by simp; exact Red.rfl) (by simp) ⟨?_, rfl⟩
    rw [AV.bool.injEq, Bool.eq_iff_iff]; simp [h1]
  · intro h1
    repeat (first
     | (with_reducible first | refine e_seq ?_ | refine e_ops ?_ | refine e_ret ?_ | refine e_exit ?_ | refine e_skip ?_ | refine e_block ?_ | refine e_scope ?_ | refine q_then ?_ | refine q_ret ?_ | refine q_exit ?_ | refine q_block ?_ | refine q_block_ret ?_ | refine q_block_exit ?_)
     | ((with_reducible apply q_block_other); decide)
     | (with_reducible first | refine q_again_ret ?_ | refine q_again_exit ?_ | refine q_scope ?_ | refine q_scope_ret ?_ | refine d_start ?_)
     | ((with_reducible first | apply e_end | apply d_end); (simp; exact Red.rfl))
     | ((with_reducible first | apply e_op | apply e_do); rfl; (simp (disch := omega) [wrap64, h1]; exact Red.rfl); exact Red.rfl; (focus (first | (simp; done) | omega | (simp; omega))))
     | ((with_reducible first | apply e_yes | apply d_yes | apply e_true); (simp (disch := omega) [wrap64, h1]; exact Red.rfl))
     | ((with_reducible first | apply e_no | apply d_no); (simp (disch := omega) [wrap64, h1]; exact Red.rfl); decide)
     | ((with_reducible apply e_no'); (simp (disch := omega) [wrap64, h1]; exact Red.rfl); decide)
     | ((with_reducible first | apply e_un | apply d_un | apply e_false); (simp (disch := omega) [wrap64, h1]; exact Red.rfl))
     | ((with_reducible apply d_pure); rfl; (simp (disch := omega) [wrap64, h1]; exact Red.rfl); exact Red.rfl; (focus (first | (simp; done) | omega | (simp; omega))))
     | ((with_reducible apply d_read); rfl; rfl; (simp (disch := omega) [wrap64, h1]; exact Red.rfl); exact Red.rfl; (focus (first | (simp; done) | omega | (simp; omega))))
     | ((with_reducible apply d_read_); rfl; (simp (disch := omega) [wrap64, h1]; exact Red.rfl); exact Red.rfl; (focus (first | (simp; done) | omega | (simp; omega))); (focus (simp [repast, pr, AOp.sem]; done)))
     | ((with_reducible apply d_new); rfl; (simp (disch := omega) [wrap64, h1]; exact Red.rfl); exact Red.rfl; (focus (first | (simp; done) | omega | (simp; omega))); (focus (first | (simp; done) | (simp; omega))))
     | ((with_reducible first | apply d_do | apply d_set); rfl; rfl; rfl; (simp (disch := omega) [wrap64, h1]; exact Red.rfl); exact Red.rfl; (focus (first | (simp; done) | omega | (simp; omega))); (focus (first | (simp; done) | (simp; omega))); (focus (first | (simp; done) | (simp; omega)))))
    refine q_drop (.inr rfl) (by simp; exact Red.rfl) (by simp) ⟨?_, rfl⟩
    rw [AV.bool.injEq, Bool.eq_iff_iff]; simp; omega

theorem c_great (H : Heap) (id off n : Nat) (ex : Bool) (hid : id < H.length) : ACalls Try.prog F.ref01_Great [.agg [.slice id off n 9 ex]] H (fun v h' => v = .bool (decide (20 < n)) ∧ h' = H) := by
  refine acalls_of ok_ref01_Great rfl fun hcl => ?_
  unfold ac_ref01_Great
  simp only [argsT, Nat.zero_add, Nat.reduceAdd]
  repeat (first
   | (with_reducible first | refine e_seq ?_ | refine e_ops ?_ | refine e_ret ?_ | refine e_exit ?_ | refine e_skip ?_ | refine e_block ?_ | refine e_scope ?_ | refine q_then ?_ | refine q_ret ?_ | refine q_exit ?_ | refine q_block ?_ | refine q_block_ret ?_ | refine q_block_exit ?_)
   | ((with_reducible apply q_block_other); decide)
   | (with_reducible first | refine q_again_ret ?_ | refine q_again_exit ?_ | refine q_scope ?_ | refine q_scope_ret ?_ | refine d_start ?_)
   | ((with_reducible first | apply e_end | apply d_end); (simp; exact Red.rfl))
   | ((with_reducible first | apply e_op | apply e_do); rfl; (simp (disch := omega) [wrap64]; exact Red.rfl); exact Red.rfl; (focus (first | (simp; done) | omega | (simp; omega))))
   | ((with_reducible first | apply e_yes | apply d_yes | apply e_true); (simp (disch := omega) [wrap64]; exact Red.rfl))
   | ((with_reducible first | apply e_no | apply d_no); (simp (disch := omega) [wrap64]; exact Red.rfl); decide)
   | ((with_reducible apply e_no'); (simp (disch := omega) [wrap64]; exact Red.rfl); decide)
   | ((with_reducible first | apply e_un | apply d_un | apply e_false); (simp (disch := omega) [wrap64]; exact Red.rfl))
   | ((with_reducible apply d_pure); rfl; (simp (disch := omega) [wrap64]; exact Red.rfl); exact Red.rfl; (focus (first | (simp; done) | omega | (simp; omega))))
   | ((with_reducible apply d_read); rfl; rfl; (simp (disch := omega) [wrap64]; exact Red.rfl); exact Red.rfl; (focus (first | (simp; done) | omega | (simp; omega))))
   | ((with_reducible apply d_read_); rfl; (simp (disch := omega) [wrap64]; exact Red.rfl); exact Red.rfl; (focus (first | (simp; done) | omega | (simp; omega))); (focus (simp [repast, pr, AOp.sem]; done)))
   | ((with_reducible apply d_new); rfl; (simp (disch := omega) [wrap64]; exact Red.rfl); exact Red.rfl; (focus (first | (simp; done) | omega | (simp; omega))); (focus (first | (simp; done) | (simp; omega))))
   | ((with_reducible first | apply d_do | apply d_set); rfl; rfl; rfl; (simp (disch := omega) [wrap64]; exact Red.rfl); exact Red.rfl; (focus (first | (simp; done) | omega | (simp; omega))); (focus (first | (simp; done) | (simp; omega))); (focus (first | (simp; done) | (simp; omega)))))
  refine q_drop (.inr rfl) (by simp; exact Red.rfl) (by simp) ⟨?_, rfl⟩
  rw [AV.bool.injEq, Bool.eq_iff_iff]; simp; omega
end Go.Proofs
