/- Contracts of what is told of a stretch, two. -/
import Derived.Test.YtaplmfpbjplagabC2
namespace Go.Proofs
open Go.Abs
attribute [local simp] AOp.den AOpd.ev lk cellsOf rd_new rd_new0 rd_zero rd_succ wr_new wr_new0 wr_zero wr_succ splice fillA binA scal sliceCells List.length_append argsT AV.sc scL AObj.sc resV getAll AR.get AOp.slots opdSlots opdsSlots partSlots eqAt
set_option linter.unusedSimpArgs false
set_option linter.unusedVariables false

def sidedB (side rLo rHi : Int) : Bool := decide ((side = 0 ∧ rLo = 0 ∧ rHi = 0) ∨ ((side = 1 ∨ side = 2) ∧ rLo ≤ rHi ∧ 500 ≤ rLo ∧ rHi ≤ 20000))

theorem c_sided (H : Heap) (id lLo lHi fLo fHi rLo rHi side wall : Int) :
    ACalls Try.prog F.track_sided [.agg [.int .i64 id, .int .i64 lLo, .int .i64 lHi, .int .i64 fLo, .int .i64 fHi, .int .i64 rLo, .int .i64 rHi, .int .u8 side, .int .i64 wall]] H
      (fun v h' => v = .bool (sidedB side rLo rHi) ∧ h' = H) := by
  refine acalls_of ok_track_sided rfl fun hcl => ?_
  unfold ac_track_sided
  simp only [argsT, Nat.zero_add, Nat.reduceAdd]
  repeat (first
   | (with_reducible first | refine e_seq ?_ | refine e_ops ?_ | refine e_ret ?_ | refine e_exit ?_ | refine e_skip ?_ | refine e_block ?_ | refine e_scope ?_ | refine q_then ?_ | refine q_ret ?_ | refine q_exit ?_ | refine q_block ?_ | refine q_block_ret ?_ | refine q_block_exit ?_)
   | ((with_reducible apply q_block_other); decide)
   | (with_reducible first | refine q_again_ret ?_ | refine q_again_exit ?_ | refine q_scope ?_ | refine q_scope_ret ?_ | refine d_start ?_)
   | ((with_reducible first | apply e_end | apply d_end); (simp; exact Red.rfl))
   | ((with_reducible first | apply e_op | apply e_do); rfl; (simp (disch := omega) [wrap64]; exact Red.rfl); exact Red.rfl; (focus (first | (simp; done) | omega | (simp; omega))))
   | ((with_reducible first | apply e_yes | apply d_yes | apply e_true); (simp (disch := omega) [wrap64]; exact Red.rfl))
   | ((with_reducible first | apply e_no | apply d_no); (simp (disch := omega) [wrap64]; exact Red.rfl); decide)
   | ((with_reducible apply e_no'); (simp (disch := omega) [wrap64]; exact Red.rfl); decide)
   | ((with_reducible first | apply e_un | apply d_un | apply e_false); (simp (disch := omega) [wrap64]; exact Red.rfl))
   | ((with_reducible apply d_pure); rfl; (simp (disch := omega) [wrap64]; exact Red.rfl); exact Red.rfl; (focus (first | (simp; done) | omega | (simp; omega))))
   | ((with_reducible apply d_read); rfl; rfl; (simp (disch := omega) [wrap64]; exact Red.rfl); exact Red.rfl; (focus (first | (simp; done) | omega | (simp; omega))))
   | ((with_reducible apply d_read_); rfl; (simp (disch := omega) [wrap64]; exact Red.rfl); exact Red.rfl; (focus (first | (simp; done) | omega | (simp; omega))); (focus (simp [repast, pr, AOp.sem]; done)))
   | ((with_reducible apply d_new); rfl; (simp (disch := omega) [wrap64]; exact Red.rfl); exact Red.rfl; (focus (first | (simp; done) | omega | (simp; omega))); (focus (first | (simp; done) | (simp; omega))))
   | ((with_reducible first | apply d_do | apply d_set); rfl; rfl; rfl; (simp (disch := omega) [wrap64]; exact Red.rfl); exact Red.rfl; (focus (first | (simp; done) | omega | (simp; omega))); (focus (first | (simp; done) | (simp; omega))); (focus (first | (simp; done) | (simp; omega)))))
  (with_reducible apply e_dec); (simp; exact Red.rfl)
  · intro h1
    repeat (first
     | (with_reducible first | refine e_seq ?_ | refine e_ops ?_ | refine e_ret ?_ | refine e_exit ?_ | refine e_skip ?_ | refine e_block ?_ | refine e_scope ?_ | refine q_then ?_ | refine q_ret ?_ | refine q_exit ?_ | refine q_block ?_ | refine q_block_ret ?_ | refine q_block_exit ?_)
     | ((with_reducible apply q_block_other); decide)
     | (with_reducible first | refine q_again_ret ?_ | refine q_again_exit ?_ | refine q_scope ?_ | refine q_scope_ret ?_ | refine d_start ?_)
     | ((with_reducible first | apply e_end | apply d_end); (simp; exact Red.rfl))
     | ((with_reducible first | apply e_op | apply e_do); rfl; (simp (disch := omega) [wrap64]; exact Red.rfl); exact Red.rfl; (focus (first | (simp; done) | omega | (simp; omega))))
     | ((with_reducible first | apply e_yes | apply d_yes | apply e_true); (simp (disch := omega) [wrap64]; exact Red.rfl))
     | ((with_reducible first | apply e_no | apply d_no); (simp (disch := omega) [wrap64]; exact Red.rfl); decide)
     | ((with_reducible apply e_no'); (simp (disch := omega) [wrap64]; exact Red.rfl); decide)
     | ((with_reducible first | apply e_un | apply d_un | apply e_false); (simp (disch := omega) [wrap64]; exact Red.rfl))
     | ((with_reducible apply d_pure); rfl; (simp (disch := omega) [wrap64]; exact Red.rfl); exact Red.rfl; (focus (first | (simp; done) | omega | (simp; omega))))
     | ((with_reducible apply d_read); rfl; rfl; (simp (disch := omega) [wrap64]; exact Red.rfl); exact Red.rfl; (focus (first | (simp; done) | omega | (simp; omega))))
     | ((with_reducible apply d_read_); rfl; (simp (disch := omega) [wrap64]; exact Red.rfl); exact Red.rfl; (focus (first | (simp; done) | omega | (simp; omega))); (focus (simp [repast, pr, AOp.sem]; done)))
     | ((with_reducible apply d_new); rfl; (simp (disch := omega) [wrap64]; exact Red.rfl); exact Red.rfl; (focus (first | (simp; done) | omega | (simp; omega))); (focus (first | (simp; done) | (simp; omega))))
     | ((with_reducible first | apply d_do | apply d_set); rfl; rfl; rfl; (simp (disch := omega) [wrap64]; exact Red.rfl); exact Red.rfl; (focus (first | (simp; done) | omega | (simp; omega))); (focus (first | (simp; done) | (simp; omega))); (focus (first | (simp; done) | (simp; omega)))))
    refine q_drop (.inr rfl) (by simp; exact Red.rfl) (by simp) ⟨?_, rfl⟩
    rw [AV.bool.injEq, Bool.eq_iff_iff]; simp [sidedB]; omega
  · intro h1
    repeat (first
     | (with_reducible first | refine e_seq ?_ | refine e_ops ?_ | refine e_ret ?_ | refine e_exit ?_ | refine e_skip ?_ | refine e_block ?_ | refine e_scope ?_ | refine q_then ?_ | refine q_ret ?_ | refine q_exit ?_ | refine q_block ?_ | refine q_block_ret ?_ | refine q_block_exit ?_)
     | ((with_reducible apply q_block_other); decide)
     | (with_reducible first | refine q_again_ret ?_ | refine q_again_exit ?_ | refine q_scope ?_ | refine q_scope_ret ?_ | refine d_start ?_)
     | ((with_reducible first | apply e_end | apply d_end); (simp; exact Red.rfl))
     | ((with_reducible first | apply e_op | apply e_do); rfl; (simp (disch := omega) [wrap64]; exact Red.rfl); exact Red.rfl; (focus (first | (simp; done) | omega | (simp; omega))))
     | ((with_reducible first | apply e_yes | apply d_yes | apply e_true); (simp (disch := omega) [wrap64]; exact Red.rfl))
     | ((with_reducible first | apply e_no | apply d_no); (simp (disch := omega) [wrap64]; exact Red.rfl); decide)
     | ((with_reducible apply e_no'); (simp (disch := omega) [wrap64]; exact Red.rfl); decide)
     | ((with_reducible first | apply e_un | apply d_un | apply e_false); (simp (disch := omega) [wrap64]; exact Red.rfl))
     | ((with_reducible apply d_pure); rfl; (simp (disch := omega) [wrap64]; exact Red.rfl); exact Red.rfl; (focus (first | (simp; done) | omega | (simp; omega))))
     | ((with_reducible apply d_read); rfl; rfl; (simp (disch := omega) [wrap64]; exact Red.rfl); exact Red.rfl; (focus (first | (simp; done) | omega | (simp; omega))))
     | ((with_reducible apply d_read_); rfl; (simp (disch := omega) [wrap64]; exact Red.rfl); exact Red.rfl; (focus (first | (simp; done) | omega | (simp; omega))); (focus (simp [repast, pr, AOp.sem]; done)))
     | ((with_reducible apply d_new); rfl; (simp (disch := omega) [wrap64]; exact Red.rfl); exact Red.rfl; (focus (first | (simp; done) | omega | (simp; omega))); (focus (first | (simp; done) | (simp; omega))))
     | ((with_reducible first | apply d_do | apply d_set); rfl; rfl; rfl; (simp (disch := omega) [wrap64]; exact Red.rfl); exact Red.rfl; (focus (first | (simp; done) | omega | (simp; omega))); (focus (first | (simp; done) | (simp; omega))); (focus (first | (simp; done) | (simp; omega)))))
    (with_reducible apply e_dec); (simp; exact Red.rfl)
    · intro h2
      repeat (first
       | (with_reducible first | refine e_seq ?_ | refine e_ops ?_ | refine e_ret ?_ | refine e_exit ?_ | refine e_skip ?_ | refine e_block ?_ | refine e_scope ?_ | refine q_then ?_ | refine q_ret ?_ | refine q_exit ?_ | refine q_block ?_ | refine q_block_ret ?_ | refine q_block_exit ?_)
       | ((with_reducible apply q_block_other); decide)
       | (with_reducible first | refine q_again_ret ?_ | refine q_again_exit ?_ | refine q_scope ?_ | refine q_scope_ret ?_ | refine d_start ?_)
       | ((with_reducible first | apply e_end | apply d_end); (simp; exact Red.rfl))
       | ((with_reducible first | apply e_op | apply e_do); rfl; (simp (disch := omega) [wrap64, h2]; exact Red.rfl); exact Red.rfl; (focus (first | (simp; done) | omega | (simp; omega))))
       | ((with_reducible first | apply e_yes | apply d_yes | apply e_true); (simp (disch := omega) [wrap64, h2]; exact Red.rfl))
       | ((with_reducible first | apply e_no | apply d_no); (simp (disch := omega) [wrap64, h2]; exact Red.rfl); decide)
       | ((with_reducible apply e_no'); (simp (disch := omega) [wrap64, h2]; exact Red.rfl); decide)
       | ((with_reducible first | apply e_un | apply d_un | apply e_false); (simp (disch := omega) [wrap64, h2]; exact Red.rfl))
       | ((with_reducible apply d_pure); rfl; (simp (disch := omega) [wrap64, h2]; exact Red.rfl); exact Red.rfl; (focus (first | (simp; done) | omega | (simp; omega))))
       | ((with_reducible apply d_read); rfl; rfl; (simp (disch := omega) [wrap64, h2]; exact Red.rfl); exact Red.rfl; (focus (first | (simp; done) | omega | (simp; omega))))
       | ((with_reducible apply d_read_); rfl; (simp (disch := omega) [wrap64, h2]; exact Red.rfl); exact Red.rfl; (focus (first | (simp; done) | omega | (simp; omega))); (focus (simp [repast, pr, AOp.sem]; done)))
       | ((with_reducible apply d_new); rfl; (simp (disch := omega) [wrap64, h2]; exact Red.rfl); exact Red.rfl; (focus (first | (simp; done) | omega | (simp; omega))); (focus (first | (simp; done) | (simp; omega))))
       | ((with_reducible first | apply d_do | apply d_set); rfl; rfl; rfl; (simp (disch := omega) [wrap64, h2]; exact Red.rfl); exact Red.rfl; (focus (first | (simp; done) | omega | (simp; omega))); (focus (first | (simp; done) | (simp; omega))); (focus (first | (simp; done) | (simp; omega)))))
      (with_reducible apply e_call); (simp; exact Red.rfl); exact c_fits _ _ _ _ _
      rintro _ _ ⟨rfl, rfl⟩
      repeat (first
       | (with_reducible first | refine e_seq ?_ | refine e_ops ?_ | refine e_ret ?_ | refine e_exit ?_ | refine e_skip ?_ | refine e_block ?_ | refine e_scope ?_ | refine q_then ?_ | refine q_ret ?_ | refine q_exit ?_ | refine q_block ?_ | refine q_block_ret ?_ | refine q_block_exit ?_)
       | ((with_reducible apply q_block_other); decide)
       | (with_reducible first | refine q_again_ret ?_ | refine q_again_exit ?_ | refine q_scope ?_ | refine q_scope_ret ?_ | refine d_start ?_)
       | ((with_reducible first | apply e_end | apply d_end); (simp; exact Red.rfl))
       | ((with_reducible first | apply e_op | apply e_do); rfl; (simp (disch := omega) [wrap64]; exact Red.rfl); exact Red.rfl; (focus (first | (simp; done) | omega | (simp; omega))))
       | ((with_reducible first | apply e_yes | apply d_yes | apply e_true); (simp (disch := omega) [wrap64]; exact Red.rfl))
       | ((with_reducible first | apply e_no | apply d_no); (simp (disch := omega) [wrap64]; exact Red.rfl); decide)
       | ((with_reducible apply e_no'); (simp (disch := omega) [wrap64]; exact Red.rfl); decide)
       | ((with_reducible first | apply e_un | apply d_un | apply e_false); (simp (disch := omega) [wrap64]; exact Red.rfl))
       | ((with_reducible apply d_pure); rfl; (simp (disch := omega) [wrap64]; exact Red.rfl); exact Red.rfl; (focus (first | (simp; done) | omega | (simp; omega))))
       | ((with_reducible apply d_read); rfl; rfl; (simp (disch := omega) [wrap64]; exact Red.rfl); exact Red.rfl; (focus (first | (simp; done) | omega | (simp; omega))))
       | ((with_reducible apply d_read_); rfl; (simp (disch := omega) [wrap64]; exact Red.rfl); exact Red.rfl; (focus (first | (simp; done) | omega | (simp; omega))); (focus (simp [repast, pr, AOp.sem]; done)))
       | ((with_reducible apply d_new); rfl; (simp (disch := omega) [wrap64]; exact Red.rfl); exact Red.rfl; (focus (first | (simp; done) | omega | (simp; omega))); (focus (first | (simp; done) | (simp; omega))))
       | ((with_reducible first | apply d_do | apply d_set); rfl; rfl; rfl; (simp (disch := omega) [wrap64]; exact Red.rfl); exact Red.rfl; (focus (first | (simp; done) | omega | (simp; omega))); (focus (first | (simp; done) | (simp; omega))); (focus (first | (simp; done) | (simp; omega)))))
      refine q_drop (.inr rfl) (by simp; exact Red.rfl) (by simp) ⟨?_, rfl⟩
      rw [AV.bool.injEq, Bool.eq_iff_iff]; simp [sidedB]; omega
    · intro h2
      repeat (first
       | (with_reducible first | refine e_seq ?_ | refine e_ops ?_ | refine e_ret ?_ | refine e_exit ?_ | refine e_skip ?_ | refine e_block ?_ | refine e_scope ?_ | refine q_then ?_ | refine q_ret ?_ | refine q_exit ?_ | refine q_block ?_ | refine q_block_ret ?_ | refine q_block_exit ?_)
       | ((with_reducible apply q_block_other); decide)
       | (with_reducible first | refine q_again_ret ?_ | refine q_again_exit ?_ | refine q_scope ?_ | refine q_scope_ret ?_ | refine d_start ?_)
       | ((with_reducible first | apply e_end | apply d_end); (simp; exact Red.rfl))
       | ((with_reducible first | apply e_op | apply e_do); rfl; (simp (disch := omega) [wrap64]; exact Red.rfl); exact Red.rfl; (focus (first | (simp; done) | omega | (simp; omega))))
       | ((with_reducible first | apply e_yes | apply d_yes | apply e_true); (simp (disch := omega) [wrap64]; exact Red.rfl))
       | ((with_reducible first | apply e_no | apply d_no); (simp (disch := omega) [wrap64]; exact Red.rfl); decide)
       | ((with_reducible apply e_no'); (simp (disch := omega) [wrap64]; exact Red.rfl); decide)
       | ((with_reducible first | apply e_un | apply d_un | apply e_false); (simp (disch := omega) [wrap64]; exact Red.rfl))
       | ((with_reducible apply d_pure); rfl; (simp (disch := omega) [wrap64]; exact Red.rfl); exact Red.rfl; (focus (first | (simp; done) | omega | (simp; omega))))
       | ((with_reducible apply d_read); rfl; rfl; (simp (disch := omega) [wrap64]; exact Red.rfl); exact Red.rfl; (focus (first | (simp; done) | omega | (simp; omega))))
       | ((with_reducible apply d_read_); rfl; (simp (disch := omega) [wrap64]; exact Red.rfl); exact Red.rfl; (focus (first | (simp; done) | omega | (simp; omega))); (focus (simp [repast, pr, AOp.sem]; done)))
       | ((with_reducible apply d_new); rfl; (simp (disch := omega) [wrap64]; exact Red.rfl); exact Red.rfl; (focus (first | (simp; done) | omega | (simp; omega))); (focus (first | (simp; done) | (simp; omega))))
       | ((with_reducible first | apply d_do | apply d_set); rfl; rfl; rfl; (simp (disch := omega) [wrap64]; exact Red.rfl); exact Red.rfl; (focus (first | (simp; done) | omega | (simp; omega))); (focus (first | (simp; done) | (simp; omega))); (focus (first | (simp; done) | (simp; omega)))))
      (with_reducible apply e_dec); (simp; exact Red.rfl)
      · intro h3
        repeat (first
         | (with_reducible first | refine e_seq ?_ | refine e_ops ?_ | refine e_ret ?_ | refine e_exit ?_ | refine e_skip ?_ | refine e_block ?_ | refine e_scope ?_ | refine q_then ?_ | refine q_ret ?_ | refine q_exit ?_ | refine q_block ?_ | refine q_block_ret ?_ | refine q_block_exit ?_)
         | ((with_reducible apply q_block_other); decide)
         | (with_reducible first | refine q_again_ret ?_ | refine q_again_exit ?_ | refine q_scope ?_ | refine q_scope_ret ?_ | refine d_start ?_)
         | ((with_reducible first | apply e_end | apply d_end); (simp; exact Red.rfl))
         | ((with_reducible first | apply e_op | apply e_do); rfl; (simp (disch := omega) [wrap64]; exact Red.rfl); exact Red.rfl; (focus (first | (simp; done) | omega | (simp; omega))))
         | ((with_reducible first | apply e_yes | apply d_yes | apply e_true); (simp (disch := omega) [wrap64]; exact Red.rfl))
         | ((with_reducible first | apply e_no | apply d_no); (simp (disch := omega) [wrap64]; exact Red.rfl); decide)
         | ((with_reducible apply e_no'); (simp (disch := omega) [wrap64]; exact Red.rfl); decide)
         | ((with_reducible first | apply e_un | apply d_un | apply e_false); (simp (disch := omega) [wrap64]; exact Red.rfl))
         | ((with_reducible apply d_pure); rfl; (simp (disch := omega) [wrap64]; exact Red.rfl); exact Red.rfl; (focus (first | (simp; done) | omega | (simp; omega))))
         | ((with_reducible apply d_read); rfl; rfl; (simp (disch := omega) [wrap64]; exact Red.rfl); exact Red.rfl; (focus (first | (simp; done) | omega | (simp; omega))))
         | ((with_reducible apply d_read_); rfl; (simp (disch := omega) [wrap64]; exact Red.rfl); exact Red.rfl; (focus (first | (simp; done) | omega | (simp; omega))); (focus (simp [repast, pr, AOp.sem]; done)))
         | ((with_reducible apply d_new); rfl; (simp (disch := omega) [wrap64]; exact Red.rfl); exact Red.rfl; (focus (first | (simp; done) | omega | (simp; omega))); (focus (first | (simp; done) | (simp; omega))))
         | ((with_reducible first | apply d_do | apply d_set); rfl; rfl; rfl; (simp (disch := omega) [wrap64]; exact Red.rfl); exact Red.rfl; (focus (first | (simp; done) | omega | (simp; omega))); (focus (first | (simp; done) | (simp; omega))); (focus (first | (simp; done) | (simp; omega)))))
        (with_reducible apply e_call); (simp; exact Red.rfl); exact c_fits _ _ _ _ _
        rintro _ _ ⟨rfl, rfl⟩
        repeat (first
         | (with_reducible first | refine e_seq ?_ | refine e_ops ?_ | refine e_ret ?_ | refine e_exit ?_ | refine e_skip ?_ | refine e_block ?_ | refine e_scope ?_ | refine q_then ?_ | refine q_ret ?_ | refine q_exit ?_ | refine q_block ?_ | refine q_block_ret ?_ | refine q_block_exit ?_)
         | ((with_reducible apply q_block_other); decide)
         | (with_reducible first | refine q_again_ret ?_ | refine q_again_exit ?_ | refine q_scope ?_ | refine q_scope_ret ?_ | refine d_start ?_)
         | ((with_reducible first | apply e_end | apply d_end); (simp; exact Red.rfl))
         | ((with_reducible first | apply e_op | apply e_do); rfl; (simp (disch := omega) [wrap64]; exact Red.rfl); exact Red.rfl; (focus (first | (simp; done) | omega | (simp; omega))))
         | ((with_reducible first | apply e_yes | apply d_yes | apply e_true); (simp (disch := omega) [wrap64]; exact Red.rfl))
         | ((with_reducible first | apply e_no | apply d_no); (simp (disch := omega) [wrap64]; exact Red.rfl); decide)
         | ((with_reducible apply e_no'); (simp (disch := omega) [wrap64]; exact Red.rfl); decide)
         | ((with_reducible first | apply e_un | apply d_un | apply e_false); (simp (disch := omega) [wrap64]; exact Red.rfl))
         | ((with_reducible apply d_pure); rfl; (simp (disch := omega) [wrap64]; exact Red.rfl); exact Red.rfl; (focus (first | (simp; done) | omega | (simp; omega))))
         | ((with_reducible apply d_read); rfl; rfl; (simp (disch := omega) [wrap64]; exact Red.rfl); exact Red.rfl; (focus (first | (simp; done) | omega | (simp; omega))))
         | ((with_reducible apply d_read_); rfl; (simp (disch := omega) [wrap64]; exact Red.rfl); exact Red.rfl; (focus (first | (simp; done) | omega | (simp; omega))); (focus (simp [repast, pr, AOp.sem]; done)))
         | ((with_reducible apply d_new); rfl; (simp (disch := omega) [wrap64]; exact Red.rfl); exact Red.rfl; (focus (first | (simp; done) | omega | (simp; omega))); (focus (first | (simp; done) | (simp; omega))))
         | ((with_reducible first | apply d_do | apply d_set); rfl; rfl; rfl; (simp (disch := omega) [wrap64]; exact Red.rfl); exact Red.rfl; (focus (first | (simp; done) | omega | (simp; omega))); (focus (first | (simp; done) | (simp; omega))); (focus (first | (simp; done) | (simp; omega)))))
        refine q_drop (.inr rfl) (by simp; exact Red.rfl) (by simp) ⟨?_, rfl⟩
        rw [AV.bool.injEq, Bool.eq_iff_iff]; simp [sidedB]; omega
      · intro h3
        repeat (first
         | (with_reducible first | refine e_seq ?_ | refine e_ops ?_ | refine e_ret ?_ | refine e_exit ?_ | refine e_skip ?_ | refine e_block ?_ | refine e_scope ?_ | refine q_then ?_ | refine q_ret ?_ | refine q_exit ?_ | refine q_block ?_ | refine q_block_ret ?_ | refine q_block_exit ?_)
         | ((with_reducible apply q_block_other); decide)
         | (with_reducible first | refine q_again_ret ?_ | refine q_again_exit ?_ | refine q_scope ?_ | refine q_scope_ret ?_ | refine d_start ?_)
         | ((with_reducible first | apply e_end | apply d_end); (simp; exact Red.rfl))
         | ((with_reducible first | apply e_op | apply e_do); rfl; (simp (disch := omega) [wrap64]; exact Red.rfl); exact Red.rfl; (focus (first | (simp; done) | omega | (simp; omega))))
         | ((with_reducible first | apply e_yes | apply d_yes | apply e_true); (simp (disch := omega) [wrap64]; exact Red.rfl))
         | ((with_reducible first | apply e_no | apply d_no); (simp (disch := omega) [wrap64]; exact Red.rfl); decide)
         | ((with_reducible apply e_no'); (simp (disch := omega) [wrap64]; exact Red.rfl); decide)
         | ((with_reducible first | apply e_un | apply d_un | apply e_false); (simp (disch := omega) [wrap64]; exact Red.rfl))
         | ((with_reducible apply d_pure); rfl; (simp (disch := omega) [wrap64]; exact Red.rfl); exact Red.rfl; (focus (first | (simp; done) | omega | (simp; omega))))
         | ((with_reducible apply d_read); rfl; rfl; (simp (disch := omega) [wrap64]; exact Red.rfl); exact Red.rfl; (focus (first | (simp; done) | omega | (simp; omega))))
         | ((with_reducible apply d_read_); rfl; (simp (disch := omega) [wrap64]; exact Red.rfl); exact Red.rfl; (focus (first | (simp; done) | omega | (simp; omega))); (focus (simp [repast, pr, AOp.sem]; done)))
         | ((with_reducible apply d_new); rfl; (simp (disch := omega) [wrap64]; exact Red.rfl); exact Red.rfl; (focus (first | (simp; done) | omega | (simp; omega))); (focus (first | (simp; done) | (simp; omega))))
         | ((with_reducible first | apply d_do | apply d_set); rfl; rfl; rfl; (simp (disch := omega) [wrap64]; exact Red.rfl); exact Red.rfl; (focus (first | (simp; done) | omega | (simp; omega))); (focus (first | (simp; done) | (simp; omega))); (focus (first | (simp; done) | (simp; omega)))))
        refine q_drop (.inr rfl) (by simp; exact Red.rfl) (by simp) ⟨?_, rfl⟩
        rw [AV.bool.injEq, Bool.eq_iff_iff]; simp [sidedB]; omega
end Go.Proofs
