/- Contracts of small functions of package track. -/
import Derived.Test.YtaplmfpbjplagabA43
import Derived.Test.YtaplmfpbjplagabAc0
namespace Go.Proofs
open Go.Abs
attribute [local simp] AOp.den AOpd.ev lk cellsOf rd_new rd_new0 rd_zero rd_succ wr_new wr_new0 wr_zero wr_succ splice fillA binA scal sliceCells List.length_append argsT AV.sc scL AObj.sc resV getAll AR.get
set_option linter.unusedSimpArgs false
set_option linter.unusedVariables false

theorem c_one (H : Heap) (a : Int) : ACalls Try.prog F.span_One [.int .i64 a] H (fun v h' => v = .agg [.int .i64 a, .int .i64 a] ∧ h' = H) := by
  refine acalls_of ok_span_One rfl fun hcl => ?_
  unfold ac_span_One
  simp only [argsT, Nat.zero_add, Nat.reduceAdd]
  repeat (first
   | (with_reducible first | refine e_seq ?_ | refine e_ops ?_ | refine e_ret ?_ | refine e_exit ?_ | refine e_skip ?_ | refine e_block ?_ | refine e_scope ?_ | refine q_then ?_ | refine q_ret ?_ | refine q_exit ?_ | refine q_block ?_ | refine q_block_ret ?_ | refine q_block_exit ?_)
   | ((with_reducible apply q_block_other); decide)
   | (with_reducible first | refine q_again_ret ?_ | refine q_again_exit ?_ | refine q_scope ?_ | refine q_scope_ret ?_ | refine d_start ?_)
   | ((with_reducible first | apply e_end | apply d_end); (simp; exact Red.rfl))
   | ((with_reducible first | apply e_op | apply e_do); rfl; (simp (disch := omega) [wrap64]; exact Red.rfl); exact Red.rfl; (focus (first | (simp; done) | omega | (simp; omega))))
   | ((with_reducible first | apply e_yes | apply d_yes | apply e_true); (simp (disch := omega) [wrap64]; exact Red.rfl))
   | ((with_reducible first | apply e_no | apply d_no); (simp (disch := omega) [wrap64]; exact Red.rfl); decide)
   | ((with_reducible apply e_no'); (simp (disch := omega) [wrap64]; exact Red.rfl); decide)
   | ((with_reducible first | apply e_un | apply d_un | apply e_false); (simp (disch := omega) [wrap64]; exact Red.rfl))
   | ((with_reducible apply d_pure); rfl; (simp (disch := omega) [wrap64]; exact Red.rfl); exact Red.rfl; (focus (first | (simp; done) | omega | (simp; omega))))
   | ((with_reducible apply d_read); rfl; rfl; (simp (disch := omega) [wrap64]; exact Red.rfl); exact Red.rfl; (focus (first | (simp; done) | omega | (simp; omega))))
   | ((with_reducible apply d_read_); rfl; (simp (disch := omega) [wrap64]; exact Red.rfl); exact Red.rfl; (focus (first | (simp; done) | omega | (simp; omega))); (focus (simp [repast, pr, AOp.sem]; done)))
   | ((with_reducible apply d_new); rfl; (simp (disch := omega) [wrap64]; exact Red.rfl); exact Red.rfl; (focus (first | (simp; done) | omega | (simp; omega))); (focus (first | (simp; done) | (simp; omega))))
   | ((with_reducible first | apply d_do | apply d_set); rfl; rfl; rfl; (simp (disch := omega) [wrap64]; exact Red.rfl); exact Red.rfl; (focus (first | (simp; done) | omega | (simp; omega))); (focus (first | (simp; done) | (simp; omega))); (focus (first | (simp; done) | (simp; omega)))))
  refine q_drop (.inr rfl) (by simp; exact Red.rfl) (by simp) ⟨rfl, rfl⟩

theorem c_upto (H : Heap) (a : Int) : ACalls Try.prog F.span_UpTo [.int .i64 a] H (fun v h' => v = .agg [.int .i64 0, .int .i64 a] ∧ h' = H) := by
  refine acalls_of ok_span_UpTo rfl fun hcl => ?_
  unfold ac_span_UpTo
  simp only [argsT, Nat.zero_add, Nat.reduceAdd]
  repeat (first
   | (with_reducible first | refine e_seq ?_ | refine e_ops ?_ | refine e_ret ?_ | refine e_exit ?_ | refine e_skip ?_ | refine e_block ?_ | refine e_scope ?_ | refine q_then ?_ | refine q_ret ?_ | refine q_exit ?_ | refine q_block ?_ | refine q_block_ret ?_ | refine q_block_exit ?_)
   | ((with_reducible apply q_block_other); decide)
   | (with_reducible first | refine q_again_ret ?_ | refine q_again_exit ?_ | refine q_scope ?_ | refine q_scope_ret ?_ | refine d_start ?_)
   | ((with_reducible first | apply e_end | apply d_end); (simp; exact Red.rfl))
   | ((with_reducible first | apply e_op | apply e_do); rfl; (simp (disch := omega) [wrap64]; exact Red.rfl); exact Red.rfl; (focus (first | (simp; done) | omega | (simp; omega))))
   | ((with_reducible first | apply e_yes | apply d_yes | apply e_true); (simp (disch := omega) [wrap64]; exact Red.rfl))
   | ((with_reducible first | apply e_no | apply d_no); (simp (disch := omega) [wrap64]; exact Red.rfl); decide)
   | ((with_reducible apply e_no'); (simp (disch := omega) [wrap64]; exact Red.rfl); decide)
   | ((with_reducible first | apply e_un | apply d_un | apply e_false); (simp (disch := omega) [wrap64]; exact Red.rfl))
   | ((with_reducible apply d_pure); rfl; (simp (disch := omega) [wrap64]; exact Red.rfl); exact Red.rfl; (focus (first | (simp; done) | omega | (simp; omega))))
   | ((with_reducible apply d_read); rfl; rfl; (simp (disch := omega) [wrap64]; exact Red.rfl); exact Red.rfl; (focus (first | (simp; done) | omega | (simp; omega))))
   | ((with_reducible apply d_read_); rfl; (simp (disch := omega) [wrap64]; exact Red.rfl); exact Red.rfl; (focus (first | (simp; done) | omega | (simp; omega))); (focus (simp [repast, pr, AOp.sem]; done)))
   | ((with_reducible apply d_new); rfl; (simp (disch := omega) [wrap64]; exact Red.rfl); exact Red.rfl; (focus (first | (simp; done) | omega | (simp; omega))); (focus (first | (simp; done) | (simp; omega))))
   | ((with_reducible first | apply d_do | apply d_set); rfl; rfl; rfl; (simp (disch := omega) [wrap64]; exact Red.rfl); exact Red.rfl; (focus (first | (simp; done) | omega | (simp; omega))); (focus (first | (simp; done) | (simp; omega))); (focus (first | (simp; done) | (simp; omega)))))
  refine q_drop (.inr rfl) (by simp; exact Red.rfl) (by simp) ⟨rfl, rfl⟩

theorem c_plus (H : Heap) (a b c d : Int) (h1 : -9223372036854775808 ≤ a + c) (h2 : a + c ≤ 9223372036854775807) (h3 : -9223372036854775808 ≤ b + d) (h4 : b + d ≤ 9223372036854775807) :
    ACalls Try.prog F.span_Plus [.agg [.int .i64 a, .int .i64 b], .agg [.int .i64 c, .int .i64 d]] H (fun v h' => v = .agg [.int .i64 (a + c), .int .i64 (b + d)] ∧ h' = H) := by
  refine acalls_of ok_span_Plus rfl fun hcl => ?_
  unfold ac_span_Plus
  simp only [argsT, Nat.zero_add, Nat.reduceAdd]
  repeat (first
   | (with_reducible first | refine e_seq ?_ | refine e_ops ?_ | refine e_ret ?_ | refine e_exit ?_ | refine e_skip ?_ | refine e_block ?_ | refine e_scope ?_ | refine q_then ?_ | refine q_ret ?_ | refine q_exit ?_ | refine q_block ?_ | refine q_block_ret ?_ | refine q_block_exit ?_)
   | ((with_reducible apply q_block_other); decide)
   | (with_reducible first | refine q_again_ret ?_ | refine q_again_exit ?_ | refine q_scope ?_ | refine q_scope_ret ?_ | refine d_start ?_)
   | ((with_reducible first | apply e_end | apply d_end); (simp; exact Red.rfl))
   | ((with_reducible first | apply e_op | apply e_do); rfl; (simp (disch := omega) [wrap64]; exact Red.rfl); exact Red.rfl; (focus (first | (simp; done) | omega | (simp; omega))))
   | ((with_reducible first | apply e_yes | apply d_yes | apply e_true); (simp (disch := omega) [wrap64]; exact Red.rfl))
   | ((with_reducible first | apply e_no | apply d_no); (simp (disch := omega) [wrap64]; exact Red.rfl); decide)
   | ((with_reducible apply e_no'); (simp (disch := omega) [wrap64]; exact Red.rfl); decide)
   | ((with_reducible first | apply e_un | apply d_un | apply e_false); (simp (disch := omega) [wrap64]; exact Red.rfl))
   | ((with_reducible apply d_pure); rfl; (simp (disch := omega) [wrap64]; exact Red.rfl); exact Red.rfl; (focus (first | (simp; done) | omega | (simp; omega))))
   | ((with_reducible apply d_read); rfl; rfl; (simp (disch := omega) [wrap64]; exact Red.rfl); exact Red.rfl; (focus (first | (simp; done) | omega | (simp; omega))))
   | ((with_reducible apply d_read_); rfl; (simp (disch := omega) [wrap64]; exact Red.rfl); exact Red.rfl; (focus (first | (simp; done) | omega | (simp; omega))); (focus (simp [repast, pr, AOp.sem]; done)))
   | ((with_reducible apply d_new); rfl; (simp (disch := omega) [wrap64]; exact Red.rfl); exact Red.rfl; (focus (first | (simp; done) | omega | (simp; omega))); (focus (first | (simp; done) | (simp; omega))))
   | ((with_reducible first | apply d_do | apply d_set); rfl; rfl; rfl; (simp (disch := omega) [wrap64]; exact Red.rfl); exact Red.rfl; (focus (first | (simp; done) | omega | (simp; omega))); (focus (first | (simp; done) | (simp; omega))); (focus (first | (simp; done) | (simp; omega)))))
  refine q_drop (.inr rfl) (by simp; exact Red.rfl) (by simp) ⟨rfl, rfl⟩

theorem c_minus (H : Heap) (a b c d : Int) (h1 : -9223372036854775808 ≤ a - d) (h2 : a - d ≤ 9223372036854775807) (h3 : -9223372036854775808 ≤ b - c) (h4 : b - c ≤ 9223372036854775807) :
    ACalls Try.prog F.span_Minus [.agg [.int .i64 a, .int .i64 b], .agg [.int .i64 c, .int .i64 d]] H (fun v h' => v = .agg [.int .i64 (a - d), .int .i64 (b - c)] ∧ h' = H) := by
  refine acalls_of ok_span_Minus rfl fun hcl => ?_
  unfold ac_span_Minus
  simp only [argsT, Nat.zero_add, Nat.reduceAdd]
  repeat (first
   | (with_reducible first | refine e_seq ?_ | refine e_ops ?_ | refine e_ret ?_ | refine e_exit ?_ | refine e_skip ?_ | refine e_block ?_ | refine e_scope ?_ | refine q_then ?_ | refine q_ret ?_ | refine q_exit ?_ | refine q_block ?_ | refine q_block_ret ?_ | refine q_block_exit ?_)
   | ((with_reducible apply q_block_other); decide)
   | (with_reducible first | refine q_again_ret ?_ | refine q_again_exit ?_ | refine q_scope ?_ | refine q_scope_ret ?_ | refine d_start ?_)
   | ((with_reducible first | apply e_end | apply d_end); (simp; exact Red.rfl))
   | ((with_reducible first | apply e_op | apply e_do); rfl; (simp (disch := omega) [wrap64]; exact Red.rfl); exact Red.rfl; (focus (first | (simp; done) | omega | (simp; omega))))
   | ((with_reducible first | apply e_yes | apply d_yes | apply e_true); (simp (disch := omega) [wrap64]; exact Red.rfl))
   | ((with_reducible first | apply e_no | apply d_no); (simp (disch := omega) [wrap64]; exact Red.rfl); decide)
   | ((with_reducible apply e_no'); (simp (disch := omega) [wrap64]; exact Red.rfl); decide)
   | ((with_reducible first | apply e_un | apply d_un | apply e_false); (simp (disch := omega) [wrap64]; exact Red.rfl))
   | ((with_reducible apply d_pure); rfl; (simp (disch := omega) [wrap64]; exact Red.rfl); exact Red.rfl; (focus (first | (simp; done) | omega | (simp; omega))))
   | ((with_reducible apply d_read); rfl; rfl; (simp (disch := omega) [wrap64]; exact Red.rfl); exact Red.rfl; (focus (first | (simp; done) | omega | (simp; omega))))
   | ((with_reducible apply d_read_); rfl; (simp (disch := omega) [wrap64]; exact Red.rfl); exact Red.rfl; (focus (first | (simp; done) | omega | (simp; omega))); (focus (simp [repast, pr, AOp.sem]; done)))
   | ((with_reducible apply d_new); rfl; (simp (disch := omega) [wrap64]; exact Red.rfl); exact Red.rfl; (focus (first | (simp; done) | omega | (simp; omega))); (focus (first | (simp; done) | (simp; omega))))
   | ((with_reducible first | apply d_do | apply d_set); rfl; rfl; rfl; (simp (disch := omega) [wrap64]; exact Red.rfl); exact Red.rfl; (focus (first | (simp; done) | omega | (simp; omega))); (focus (first | (simp; done) | (simp; omega))); (focus (first | (simp; done) | (simp; omega)))))
  refine q_drop (.inr rfl) (by simp; exact Red.rfl) (by simp) ⟨rfl, rfl⟩

theorem c_within (H : Heap) (lo hi : Int) (xs : List Int) (id off : Nat) (ex : Bool) (hs : rd H id off (xs.length * 1) = some (xs.map (AV.int .i64))) (hn : (xs.length : Int) < 1000000) :
    ACalls Try.prog F.span_Within [.agg [.int .i64 lo, .int .i64 hi], .slice id off xs.length 1 ex] H (fun v h' => v = .bool (xs.all fun x => decide (lo ≤ x ∧ x ≤ hi)) ∧ h' = H) := by
  refine acalls_of ok_span_Within rfl fun hcl => ?_
  unfold ac_span_Within
  simp only [argsT, Nat.zero_add, Nat.reduceAdd]
  have hid := rd_lt hs
  repeat (first
   | (with_reducible first | refine e_seq ?_ | refine e_ops ?_ | refine e_ret ?_ | refine e_exit ?_ | refine e_skip ?_ | refine e_block ?_ | refine e_scope ?_ | refine q_then ?_ | refine q_ret ?_ | refine q_exit ?_ | refine q_block ?_ | refine q_block_ret ?_ | refine q_block_exit ?_)
   | ((with_reducible apply q_block_other); decide)
   | (with_reducible first | refine q_again_ret ?_ | refine q_again_exit ?_ | refine q_scope ?_ | refine q_scope_ret ?_ | refine d_start ?_)
   | ((with_reducible first | apply e_end | apply d_end); (simp; exact Red.rfl))
   | ((with_reducible first | apply e_op | apply e_do); rfl; (simp (disch := omega) [wrap64]; exact Red.rfl); exact Red.rfl; (focus (first | (simp; done) | omega | (simp; omega))))
   | ((with_reducible first | apply e_yes | apply d_yes | apply e_true); (simp (disch := omega) [wrap64]; exact Red.rfl))
   | ((with_reducible first | apply e_no | apply d_no); (simp (disch := omega) [wrap64]; exact Red.rfl); decide)
   | ((with_reducible apply e_no'); (simp (disch := omega) [wrap64]; exact Red.rfl); decide)
   | ((with_reducible first | apply e_un | apply d_un | apply e_false); (simp (disch := omega) [wrap64]; exact Red.rfl))
   | ((with_reducible apply d_pure); rfl; (simp (disch := omega) [wrap64]; exact Red.rfl); exact Red.rfl; (focus (first | (simp; done) | omega | (simp; omega))))
   | ((with_reducible apply d_read); rfl; rfl; (simp (disch := omega) [wrap64]; exact Red.rfl); exact Red.rfl; (focus (first | (simp; done) | omega | (simp; omega))))
   | ((with_reducible apply d_read_); rfl; (simp (disch := omega) [wrap64]; exact Red.rfl); exact Red.rfl; (focus (first | (simp; done) | omega | (simp; omega))); (focus (simp [repast, pr, AOp.sem]; done)))
   | ((with_reducible apply d_new); rfl; (simp (disch := omega) [wrap64]; exact Red.rfl); exact Red.rfl; (focus (first | (simp; done) | omega | (simp; omega))); (focus (first | (simp; done) | (simp; omega))))
   | ((with_reducible first | apply d_do | apply d_set); rfl; rfl; rfl; (simp (disch := omega) [wrap64]; exact Red.rfl); exact Red.rfl; (focus (first | (simp; done) | omega | (simp; omega))); (focus (first | (simp; done) | (simp; omega))); (focus (first | (simp; done) | (simp; omega)))))
  refine e_loop (ι := { i : Nat // i ≤ xs.length ∧ ∀ j, (hj : j < xs.length) → j < i → lo ≤ xs[j] ∧ xs[j] ≤ hi })
    (fun i => [(2, .ptr H.length 0), (7, .slice id off xs.length 1 ex), (8, .int .i64 xs.length), (9, .int .i64 i.1)]) (fun _ => H ++ [.cells [.int .i64 lo, .int .i64 hi] true]) (fun i => xs.length - i.1) ⟨0, by simp⟩ ?_ ?_
  · exact .inr <| le_same (by simp [AObj.sc, scL, AV.sc]) (by simp [AV.sc]; refine ⟨Red.rfl, ⟨by omega, Red.rfl⟩, Red.rfl, Red.rfl⟩)
  · rintro ⟨i, hi1, hi2⟩
    dsimp only
    repeat (first
     | (with_reducible first | refine e_seq ?_ | refine e_ops ?_ | refine e_ret ?_ | refine e_exit ?_ | refine e_skip ?_ | refine e_block ?_ | refine e_scope ?_ | refine q_then ?_ | refine q_ret ?_ | refine q_exit ?_ | refine q_block ?_ | refine q_block_ret ?_ | refine q_block_exit ?_)
     | ((with_reducible apply q_block_other); decide)
     | (with_reducible first | refine q_again_ret ?_ | refine q_again_exit ?_ | refine q_scope ?_ | refine q_scope_ret ?_ | refine d_start ?_)
     | ((with_reducible first | apply e_end | apply d_end); (simp; exact Red.rfl))
     | ((with_reducible first | apply e_op | apply e_do); rfl; (simp (disch := omega) [wrap64]; exact Red.rfl); exact Red.rfl; (focus (first | (simp; done) | omega | (simp; omega))))
     | ((with_reducible first | apply e_yes | apply d_yes | apply e_true); (simp (disch := omega) [wrap64]; exact Red.rfl))
     | ((with_reducible first | apply e_no | apply d_no); (simp (disch := omega) [wrap64]; exact Red.rfl); decide)
     | ((with_reducible apply e_no'); (simp (disch := omega) [wrap64]; exact Red.rfl); decide)
     | ((with_reducible first | apply e_un | apply d_un | apply e_false); (simp (disch := omega) [wrap64]; exact Red.rfl))
     | ((with_reducible apply d_pure); rfl; (simp (disch := omega) [wrap64]; exact Red.rfl); exact Red.rfl; (focus (first | (simp; done) | omega | (simp; omega))))
     | ((with_reducible apply d_read); rfl; rfl; (simp (disch := omega) [wrap64]; exact Red.rfl); exact Red.rfl; (focus (first | (simp; done) | omega | (simp; omega))))
     | ((with_reducible apply d_read_); rfl; (simp (disch := omega) [wrap64]; exact Red.rfl); exact Red.rfl; (focus (first | (simp; done) | omega | (simp; omega))); (focus (simp [repast, pr, AOp.sem]; done)))
     | ((with_reducible apply d_new); rfl; (simp (disch := omega) [wrap64]; exact Red.rfl); exact Red.rfl; (focus (first | (simp; done) | omega | (simp; omega))); (focus (first | (simp; done) | (simp; omega))))
     | ((with_reducible first | apply d_do | apply d_set); rfl; rfl; rfl; (simp (disch := omega) [wrap64]; exact Red.rfl); exact Red.rfl; (focus (first | (simp; done) | omega | (simp; omega))); (focus (first | (simp; done) | (simp; omega))); (focus (first | (simp; done) | (simp; omega)))))
    (with_reducible apply e_dec); (simp; exact Red.rfl)
    · intro hlt
      have hlt : i < xs.length := by omega
      have hx : rd H id (off + i) 1 = some [.int .i64 xs[i]] := by
        have := rd_at hs hlt
        simp [List.take_one, hlt] at this
        exact this
      repeat (first
       | (with_reducible first | refine e_seq ?_ | refine e_ops ?_ | refine e_ret ?_ | refine e_exit ?_ | refine e_skip ?_ | refine e_block ?_ | refine e_scope ?_ | refine q_then ?_ | refine q_ret ?_ | refine q_exit ?_ | refine q_block ?_ | refine q_block_ret ?_ | refine q_block_exit ?_)
       | ((with_reducible apply q_block_other); decide)
       | (with_reducible first | refine q_again_ret ?_ | refine q_again_exit ?_ | refine q_scope ?_ | refine q_scope_ret ?_ | refine d_start ?_)
       | ((with_reducible first | apply e_end | apply d_end); (simp; exact Red.rfl))
       | ((with_reducible first | apply e_op | apply e_do); rfl; (simp (disch := omega) [wrap64, rd_old _ hid, hx]; exact Red.rfl); exact Red.rfl; (focus (first | (simp; done) | omega | (simp; omega))))
       | ((with_reducible first | apply e_yes | apply d_yes | apply e_true); (simp (disch := omega) [wrap64, rd_old _ hid, hx]; exact Red.rfl))
       | ((with_reducible first | apply e_no | apply d_no); (simp (disch := omega) [wrap64, rd_old _ hid, hx]; exact Red.rfl); decide)
       | ((with_reducible apply e_no'); (simp (disch := omega) [wrap64, rd_old _ hid, hx]; exact Red.rfl); decide)
       | ((with_reducible first | apply e_un | apply d_un | apply e_false); (simp (disch := omega) [wrap64, rd_old _ hid, hx]; exact Red.rfl))
       | ((with_reducible apply d_pure); rfl; (simp (disch := omega) [wrap64, rd_old _ hid, hx]; exact Red.rfl); exact Red.rfl; (focus (first | (simp; done) | omega | (simp; omega))))
       | ((with_reducible apply d_read); rfl; rfl; (simp (disch := omega) [wrap64, rd_old _ hid, hx]; exact Red.rfl); exact Red.rfl; (focus (first | (simp; done) | omega | (simp; omega))))
       | ((with_reducible apply d_read_); rfl; (simp (disch := omega) [wrap64, rd_old _ hid, hx]; exact Red.rfl); exact Red.rfl; (focus (first | (simp; done) | omega | (simp; omega))); (focus (simp [repast, pr, AOp.sem]; done)))
       | ((with_reducible apply d_new); rfl; (simp (disch := omega) [wrap64, rd_old _ hid, hx]; exact Red.rfl); exact Red.rfl; (focus (first | (simp; done) | omega | (simp; omega))); (focus (first | (simp; done) | (simp; omega))))
       | ((with_reducible first | apply d_do | apply d_set); rfl; rfl; rfl; (simp (disch := omega) [wrap64, rd_old _ hid, hx]; exact Red.rfl); exact Red.rfl; (focus (first | (simp; done) | omega | (simp; omega))); (focus (first | (simp; done) | (simp; omega))); (focus (first | (simp; done) | (simp; omega)))))
      (with_reducible apply g_no); (simp; exact Red.rfl)
      · intro h1
        repeat (first
         | (with_reducible first | refine e_seq ?_ | refine e_ops ?_ | refine e_ret ?_ | refine e_exit ?_ | refine e_skip ?_ | refine e_block ?_ | refine e_scope ?_ | refine q_then ?_ | refine q_ret ?_ | refine q_exit ?_ | refine q_block ?_ | refine q_block_ret ?_ | refine q_block_exit ?_)
         | ((with_reducible apply q_block_other); decide)
         | (with_reducible first | refine q_again_ret ?_ | refine q_again_exit ?_ | refine q_scope ?_ | refine q_scope_ret ?_ | refine d_start ?_)
         | ((with_reducible first | apply e_end | apply d_end); (simp; exact Red.rfl))
         | ((with_reducible first | apply e_op | apply e_do); rfl; (simp (disch := omega) [wrap64, h1]; exact Red.rfl); exact Red.rfl; (focus (first | (simp; done) | omega | (simp; omega))))
         | ((with_reducible first | apply e_yes | apply d_yes | apply e_true); (simp (disch := omega) [wrap64, h1]; exact Red.rfl))
         | ((with_reducible first | apply e_no | apply d_no); (simp (disch := omega) [wrap64, h1]; exact Red.rfl); decide)
         | ((with_reducible apply e_no'); (simp (disch := omega) [wrap64, h1]; exact Red.rfl); decide)
         | ((with_reducible first | apply e_un | apply d_un | apply e_false); (simp (disch := omega) [wrap64, h1]; exact Red.rfl))
         | ((with_reducible apply d_pure); rfl; (simp (disch := omega) [wrap64, h1]; exact Red.rfl); exact Red.rfl; (focus (first | (simp; done) | omega | (simp; omega))))
         | ((with_reducible apply d_read); rfl; rfl; (simp (disch := omega) [wrap64, h1]; exact Red.rfl); exact Red.rfl; (focus (first | (simp; done) | omega | (simp; omega))))
         | ((with_reducible apply d_read_); rfl; (simp (disch := omega) [wrap64, h1]; exact Red.rfl); exact Red.rfl; (focus (first | (simp; done) | omega | (simp; omega))); (focus (simp [repast, pr, AOp.sem]; done)))
         | ((with_reducible apply d_new); rfl; (simp (disch := omega) [wrap64, h1]; exact Red.rfl); exact Red.rfl; (focus (first | (simp; done) | omega | (simp; omega))); (focus (first | (simp; done) | (simp; omega))))
         | ((with_reducible first | apply d_do | apply d_set); rfl; rfl; rfl; (simp (disch := omega) [wrap64, h1]; exact Red.rfl); exact Red.rfl; (focus (first | (simp; done) | omega | (simp; omega))); (focus (first | (simp; done) | (simp; omega))); (focus (first | (simp; done) | (simp; omega)))))
        refine q_drop (.inr rfl) (by simp; exact Red.rfl) (by simp) ⟨?_, rfl⟩
        simp only [AV.bool.injEq]
        refine (List.all_eq_false.2 ⟨xs[i], List.getElem_mem hlt, ?_⟩).symm
        simp; omega
      · intro h1
        repeat (first
         | (with_reducible first | refine e_seq ?_ | refine e_ops ?_ | refine e_ret ?_ | refine e_exit ?_ | refine e_skip ?_ | refine e_block ?_ | refine e_scope ?_ | refine q_then ?_ | refine q_ret ?_ | refine q_exit ?_ | refine q_block ?_ | refine q_block_ret ?_ | refine q_block_exit ?_)
         | ((with_reducible apply q_block_other); decide)
         | (with_reducible first | refine q_again_ret ?_ | refine q_again_exit ?_ | refine q_scope ?_ | refine q_scope_ret ?_ | refine d_start ?_)
         | ((with_reducible first | apply e_end | apply d_end); (simp; exact Red.rfl))
         | ((with_reducible first | apply e_op | apply e_do); rfl; (simp (disch := omega) [wrap64, h1]; exact Red.rfl); exact Red.rfl; (focus (first | (simp; done) | omega | (simp; omega))))
         | ((with_reducible first | apply e_yes | apply d_yes | apply e_true); (simp (disch := omega) [wrap64, h1]; exact Red.rfl))
         | ((with_reducible first | apply e_no | apply d_no); (simp (disch := omega) [wrap64, h1]; exact Red.rfl); decide)
         | ((with_reducible apply e_no'); (simp (disch := omega) [wrap64, h1]; exact Red.rfl); decide)
         | ((with_reducible first | apply e_un | apply d_un | apply e_false); (simp (disch := omega) [wrap64, h1]; exact Red.rfl))
         | ((with_reducible apply d_pure); rfl; (simp (disch := omega) [wrap64, h1]; exact Red.rfl); exact Red.rfl; (focus (first | (simp; done) | omega | (simp; omega))))
         | ((with_reducible apply d_read); rfl; rfl; (simp (disch := omega) [wrap64, h1]; exact Red.rfl); exact Red.rfl; (focus (first | (simp; done) | omega | (simp; omega))))
         | ((with_reducible apply d_read_); rfl; (simp (disch := omega) [wrap64, h1]; exact Red.rfl); exact Red.rfl; (focus (first | (simp; done) | omega | (simp; omega))); (focus (simp [repast, pr, AOp.sem]; done)))
         | ((with_reducible apply d_new); rfl; (simp (disch := omega) [wrap64, h1]; exact Red.rfl); exact Red.rfl; (focus (first | (simp; done) | omega | (simp; omega))); (focus (first | (simp; done) | (simp; omega))))
         | ((with_reducible first | apply d_do | apply d_set); rfl; rfl; rfl; (simp (disch := omega) [wrap64, h1]; exact Red.rfl); exact Red.rfl; (focus (first | (simp; done) | omega | (simp; omega))); (focus (first | (simp; done) | (simp; omega))); (focus (first | (simp; done) | (simp; omega)))))
        (with_reducible apply e_dec); (simp [h1]; exact Red.rfl)
        · intro h2
          repeat (first
           | (with_reducible first | refine e_seq ?_ | refine e_ops ?_ | refine e_ret ?_ | refine e_exit ?_ | refine e_skip ?_ | refine e_block ?_ | refine e_scope ?_ | refine q_then ?_ | refine q_ret ?_ | refine q_exit ?_ | refine q_block ?_ | refine q_block_ret ?_ | refine q_block_exit ?_)
           | ((with_reducible apply q_block_other); decide)
           | (with_reducible first | refine q_again_ret ?_ | refine q_again_exit ?_ | refine q_scope ?_ | refine q_scope_ret ?_ | refine d_start ?_)
           | ((with_reducible first | apply e_end | apply d_end); (simp; exact Red.rfl))
           | ((with_reducible first | apply e_op | apply e_do); rfl; (simp (disch := omega) [wrap64]; exact Red.rfl); exact Red.rfl; (focus (first | (simp; done) | omega | (simp; omega))))
           | ((with_reducible first | apply e_yes | apply d_yes | apply e_true); (simp (disch := omega) [wrap64]; exact Red.rfl))
           | ((with_reducible first | apply e_no | apply d_no); (simp (disch := omega) [wrap64]; exact Red.rfl); decide)
           | ((with_reducible apply e_no'); (simp (disch := omega) [wrap64]; exact Red.rfl); decide)
           | ((with_reducible first | apply e_un | apply d_un | apply e_false); (simp (disch := omega) [wrap64]; exact Red.rfl))
           | ((with_reducible apply d_pure); rfl; (simp (disch := omega) [wrap64]; exact Red.rfl); exact Red.rfl; (focus (first | (simp; done) | omega | (simp; omega))))
           | ((with_reducible apply d_read); rfl; rfl; (simp (disch := omega) [wrap64]; exact Red.rfl); exact Red.rfl; (focus (first | (simp; done) | omega | (simp; omega))))
           | ((with_reducible apply d_read_); rfl; (simp (disch := omega) [wrap64]; exact Red.rfl); exact Red.rfl; (focus (first | (simp; done) | omega | (simp; omega))); (focus (simp [repast, pr, AOp.sem]; done)))
           | ((with_reducible apply d_new); rfl; (simp (disch := omega) [wrap64]; exact Red.rfl); exact Red.rfl; (focus (first | (simp; done) | omega | (simp; omega))); (focus (first | (simp; done) | (simp; omega))))
           | ((with_reducible first | apply d_do | apply d_set); rfl; rfl; rfl; (simp (disch := omega) [wrap64]; exact Red.rfl); exact Red.rfl; (focus (first | (simp; done) | omega | (simp; omega))); (focus (first | (simp; done) | (simp; omega))); (focus (first | (simp; done) | (simp; omega)))))
          refine q_drop (.inr rfl) (by simp; exact Red.rfl) (by simp) ⟨?_, rfl⟩
          simp only [AV.bool.injEq]
          refine (List.all_eq_false.2 ⟨xs[i], List.getElem_mem hlt, ?_⟩).symm
          simp; omega
        · intro h2
          repeat (first
           | (with_reducible first | refine e_seq ?_ | refine e_ops ?_ | refine e_ret ?_ | refine e_exit ?_ | refine e_skip ?_ | refine e_block ?_ | refine e_scope ?_ | refine q_then ?_ | refine q_ret ?_ | refine q_exit ?_ | refine q_block ?_ | refine q_block_ret ?_ | refine q_block_exit ?_)
           | ((with_reducible apply q_block_other); decide)
           | (with_reducible first | refine q_again_ret ?_ | refine q_again_exit ?_ | refine q_scope ?_ | refine q_scope_ret ?_ | refine d_start ?_)
           | ((with_reducible first | apply e_end | apply d_end); (simp; exact Red.rfl))
           | ((with_reducible first | apply e_op | apply e_do); rfl; (simp (disch := omega) [wrap64]; exact Red.rfl); exact Red.rfl; (focus (first | (simp; done) | omega | (simp; omega))))
           | ((with_reducible first | apply e_yes | apply d_yes | apply e_true); (simp (disch := omega) [wrap64]; exact Red.rfl))
           | ((with_reducible first | apply e_no | apply d_no); (simp (disch := omega) [wrap64]; exact Red.rfl); decide)
           | ((with_reducible apply e_no'); (simp (disch := omega) [wrap64]; exact Red.rfl); decide)
           | ((with_reducible first | apply e_un | apply d_un | apply e_false); (simp (disch := omega) [wrap64]; exact Red.rfl))
           | ((with_reducible apply d_pure); rfl; (simp (disch := omega) [wrap64]; exact Red.rfl); exact Red.rfl; (focus (first | (simp; done) | omega | (simp; omega))))
           | ((with_reducible apply d_read); rfl; rfl; (simp (disch := omega) [wrap64]; exact Red.rfl); exact Red.rfl; (focus (first | (simp; done) | omega | (simp; omega))))
           | ((with_reducible apply d_read_); rfl; (simp (disch := omega) [wrap64]; exact Red.rfl); exact Red.rfl; (focus (first | (simp; done) | omega | (simp; omega))); (focus (simp [repast, pr, AOp.sem]; done)))
           | ((with_reducible apply d_new); rfl; (simp (disch := omega) [wrap64]; exact Red.rfl); exact Red.rfl; (focus (first | (simp; done) | omega | (simp; omega))); (focus (first | (simp; done) | (simp; omega))))
           | ((with_reducible first | apply d_do | apply d_set); rfl; rfl; rfl; (simp (disch := omega) [wrap64]; exact Red.rfl); exact Red.rfl; (focus (first | (simp; done) | omega | (simp; omega))); (focus (first | (simp; done) | (simp; omega))); (focus (first | (simp; done) | (simp; omega)))))
          refine q_again ⟨i + 1, hlt, ?_⟩ ?_ ?_
          · intro j hj hji
            rcases Nat.lt_or_ge j i with h | h
            · exact hi2 j hj h
            · have : j = i := by omega
              subst this; omega
          · dsimp only; omega
          · exact .inr <| le_same (by simp [AObj.sc, scL, AV.sc]) (by simp [AV.sc]; refine ⟨Red.rfl, ⟨by omega, Red.rfl⟩, Red.rfl, Red.rfl⟩)
    · intro hge
      repeat (first
       | (with_reducible first | refine e_seq ?_ | refine e_ops ?_ | refine e_ret ?_ | refine e_exit ?_ | refine e_skip ?_ | refine e_block ?_ | refine e_scope ?_ | refine q_then ?_ | refine q_ret ?_ | refine q_exit ?_ | refine q_block ?_ | refine q_block_ret ?_ | refine q_block_exit ?_)
       | ((with_reducible apply q_block_other); decide)
       | (with_reducible first | refine q_again_ret ?_ | refine q_again_exit ?_ | refine q_scope ?_ | refine q_scope_ret ?_ | refine d_start ?_)
       | ((with_reducible first | apply e_end | apply d_end); (simp; exact Red.rfl))
       | ((with_reducible first | apply e_op | apply e_do); rfl; (simp (disch := omega) [wrap64]; exact Red.rfl); exact Red.rfl; (focus (first | (simp; done) | omega | (simp; omega))))
       | ((with_reducible first | apply e_yes | apply d_yes | apply e_true); (simp (disch := omega) [wrap64]; exact Red.rfl))
       | ((with_reducible first | apply e_no | apply d_no); (simp (disch := omega) [wrap64]; exact Red.rfl); decide)
       | ((with_reducible apply e_no'); (simp (disch := omega) [wrap64]; exact Red.rfl); decide)
       | ((with_reducible first | apply e_un | apply d_un | apply e_false); (simp (disch := omega) [wrap64]; exact Red.rfl))
       | ((with_reducible apply d_pure); rfl; (simp (disch := omega) [wrap64]; exact Red.rfl); exact Red.rfl; (focus (first | (simp; done) | omega | (simp; omega))))
       | ((with_reducible apply d_read); rfl; rfl; (simp (disch := omega) [wrap64]; exact Red.rfl); exact Red.rfl; (focus (first | (simp; done) | omega | (simp; omega))))
       | ((with_reducible apply d_read_); rfl; (simp (disch := omega) [wrap64]; exact Red.rfl); exact Red.rfl; (focus (first | (simp; done) | omega | (simp; omega))); (focus (simp [repast, pr, AOp.sem]; done)))
       | ((with_reducible apply d_new); rfl; (simp (disch := omega) [wrap64]; exact Red.rfl); exact Red.rfl; (focus (first | (simp; done) | omega | (simp; omega))); (focus (first | (simp; done) | (simp; omega))))
       | ((with_reducible first | apply d_do | apply d_set); rfl; rfl; rfl; (simp (disch := omega) [wrap64]; exact Red.rfl); exact Red.rfl; (focus (first | (simp; done) | omega | (simp; omega))); (focus (first | (simp; done) | (simp; omega))); (focus (first | (simp; done) | (simp; omega)))))
      refine q_drop (.inr rfl) (by simp; exact Red.rfl) (by simp) ⟨?_, rfl⟩
      simp only [AV.bool.injEq]
      refine (List.all_eq_true.2 fun x hx => ?_).symm
      obtain ⟨j, hj, rfl⟩ := List.getElem_of_mem hx
      have := hi2 j hj (by omega)
      simp; omega

theorem c_fits (H : Heap) (a b lo hi : Int) :
    ACalls Try.prog F.span_Fits [.agg [.int .i64 a, .int .i64 b], .agg [.int .i64 lo, .int .i64 hi]] H (fun v h' => v = .bool (decide (a ≤ b ∧ lo ≤ a ∧ b ≤ hi)) ∧ h' = H) := by
  refine acalls_of ok_span_Fits rfl fun hcl => ?_
  unfold ac_span_Fits
  simp only [argsT, Nat.zero_add, Nat.reduceAdd]
  repeat (first
   | (with_reducible first | refine e_seq ?_ | refine e_ops ?_ | refine e_ret ?_ | refine e_exit ?_ | refine e_skip ?_ | refine e_block ?_ | refine e_scope ?_ | refine q_then ?_ | refine q_ret ?_ | refine q_exit ?_ | refine q_block ?_ | refine q_block_ret ?_ | refine q_block_exit ?_)
   | ((with_reducible apply q_block_other); decide)
   | (with_reducible first | refine q_again_ret ?_ | refine q_again_exit ?_ | refine q_scope ?_ | refine q_scope_ret ?_ | refine d_start ?_)
   | ((with_reducible first | apply e_end | apply d_end); (simp; exact Red.rfl))
   | ((with_reducible first | apply e_op | apply e_do); rfl; (simp (disch := omega) [wrap64]; exact Red.rfl); exact Red.rfl; (focus (first | (simp; done) | omega | (simp; omega))))
   | ((with_reducible first | apply e_yes | apply d_yes | apply e_true); (simp (disch := omega) [wrap64]; exact Red.rfl))
   | ((with_reducible first | apply e_no | apply d_no); (simp (disch := omega) [wrap64]; exact Red.rfl); decide)
   | ((with_reducible apply e_no'); (simp (disch := omega) [wrap64]; exact Red.rfl); decide)
   | ((with_reducible first | apply e_un | apply d_un | apply e_false); (simp (disch := omega) [wrap64]; exact Red.rfl))
   | ((with_reducible apply d_pure); rfl; (simp (disch := omega) [wrap64]; exact Red.rfl); exact Red.rfl; (focus (first | (simp; done) | omega | (simp; omega))))
   | ((with_reducible apply d_read); rfl; rfl; (simp (disch := omega) [wrap64]; exact Red.rfl); exact Red.rfl; (focus (first | (simp; done) | omega | (simp; omega))))
   | ((with_reducible apply d_read_); rfl; (simp (disch := omega) [wrap64]; exact Red.rfl); exact Red.rfl; (focus (first | (simp; done) | omega | (simp; omega))); (focus (simp [repast, pr, AOp.sem]; done)))
   | ((with_reducible apply d_new); rfl; (simp (disch := omega) [wrap64]; exact Red.rfl); exact Red.rfl; (focus (first | (simp; done) | omega | (simp; omega))); (focus (first | (simp; done) | (simp; omega))))
   | ((with_reducible first | apply d_do | apply d_set); rfl; rfl; rfl; (simp (disch := omega) [wrap64]; exact Red.rfl); exact Red.rfl; (focus (first | (simp; done) | omega | (simp; omega))); (focus (first | (simp; done) | (simp; omega))); (focus (first | (simp; done) | (simp; omega)))))
  (with_reducible apply g_yes); (simp; exact Red.rfl)
  · intro h1
    repeat (first
     | (with_reducible first | refine e_seq ?_ | refine e_ops ?_ | refine e_ret ?_ | refine e_exit ?_ | refine e_skip ?_ | refine e_block ?_ | refine e_scope ?_ | refine q_then ?_ | refine q_ret ?_ | refine q_exit ?_ | refine q_block ?_ | refine q_block_ret ?_ | refine q_block_exit ?_)
     | ((with_reducible apply q_block_other); decide)
     | (with_reducible first | refine q_again_ret ?_ | refine q_again_exit ?_ | refine q_scope ?_ | refine q_scope_ret ?_ | refine d_start ?_)
     | ((with_reducible first | apply e_end | apply d_end); (simp; exact Red.rfl))
     | ((with_reducible first | apply e_op | apply e_do); rfl; (simp (disch := omega) [wrap64, h1]; exact Red.rfl); exact Red.rfl; (focus (first | (simp; done) | omega | (simp; omega))))
     | ((with_reducible first | apply e_yes | apply d_yes | apply e_true); (simp (disch := omega) [wrap64, h1]; exact Red.rfl))
     | ((with_reducible first | apply e_no | apply d_no); (simp (disch := omega) [wrap64, h1]; exact Red.rfl); decide)
     | ((with_reducible apply e_no'); (simp (disch := omega) [wrap64, h1]; exact Red.rfl); decide)
     | ((with_reducible first | apply e_un | apply d_un | apply e_false); (simp (disch := omega) [wrap64, h1]; exact Red.rfl))
     | ((with_reducible apply d_pure); rfl; (simp (disch := omega) [wrap64, h1]; exact Red.rfl); exact Red.rfl; (focus (first | (simp; done) | omega | (simp; omega))))
     | ((with_reducible apply d_read); rfl; rfl; (simp (disch := omega) [wrap64, h1]; exact Red.rfl); exact Red.rfl; (focus (first | (simp; done) | omega | (simp; omega))))
     | ((with_reducible apply d_read_); rfl; (simp (disch := omega) [wrap64, h1]; exact Red.rfl); exact Red.rfl; (focus (first | (simp; done) | omega | (simp; omega))); (focus (simp [repast, pr, AOp.sem]; done)))
     | ((with_reducible apply d_new); rfl; (simp (disch := omega) [wrap64, h1]; exact Red.rfl); exact Red.rfl; (focus (first | (simp; done) | omega | (simp; omega))); (focus (first | (simp; done) | (simp; omega))))
     | ((with_reducible first | apply d_do | apply d_set); rfl; rfl; rfl; (simp (disch := omega) [wrap64, h1]; exact Red.rfl); exact Red.rfl; (focus (first | (simp; done) | omega | (simp; omega))); (focus (first | (simp; done) | (simp; omega))); (focus (first | (simp; done) | (simp; omega)))))
    (with_reducible apply e_call); (simp; exact Red.rfl)
    · exact c_within _ lo hi [a, b] (H.length + 2) 0 true (by simp) (by simp)
    · rintro _ _ ⟨rfl, rfl⟩
      repeat (first
       | (with_reducible first | refine e_seq ?_ | refine e_ops ?_ | refine e_ret ?_ | refine e_exit ?_ | refine e_skip ?_ | refine e_block ?_ | refine e_scope ?_ | refine q_then ?_ | refine q_ret ?_ | refine q_exit ?_ | refine q_block ?_ | refine q_block_ret ?_ | refine q_block_exit ?_)
       | ((with_reducible apply q_block_other); decide)
       | (with_reducible first | refine q_again_ret ?_ | refine q_again_exit ?_ | refine q_scope ?_ | refine q_scope_ret ?_ | refine d_start ?_)
       | ((with_reducible first | apply e_end | apply d_end); (simp; exact Red.rfl))
       | ((with_reducible first | apply e_op | apply e_do); rfl; (simp (disch := omega) [wrap64, h1]; exact Red.rfl); exact Red.rfl; (focus (first | (simp; done) | omega | (simp; omega))))
       | ((with_reducible first | apply e_yes | apply d_yes | apply e_true); (simp (disch := omega) [wrap64, h1]; exact Red.rfl))
       | ((with_reducible first | apply e_no | apply d_no); (simp (disch := omega) [wrap64, h1]; exact Red.rfl); decide)
       | ((with_reducible apply e_no'); (simp (disch := omega) [wrap64, h1]; exact Red.rfl); decide)
       | ((with_reducible first | apply e_un | apply d_un | apply e_false); (simp (disch := omega) [wrap64, h1]; exact Red.rfl))
       | ((with_reducible apply d_pure); rfl; (simp (disch := omega) [wrap64, h1]; exact Red.rfl); exact Red.rfl; (focus (first | (simp; done) | omega | (simp; omega))))
       | ((with_reducible apply d_read); rfl; rfl; (simp (disch := omega) [wrap64, h1]; exact Red.rfl); exact Red.rfl; (focus (first | (simp; done) | omega | (simp; omega))))
       | ((with_reducible apply d_read_); rfl; (simp (disch := omega) [wrap64, h1]; exact Red.rfl); exact Red.rfl; (focus (first | (simp; done) | omega | (simp; omega))); (focus (simp [repast, pr, AOp.sem]; done)))
       | ((with_reducible apply d_new); rfl; (simp (disch := omega) [wrap64, h1]; exact Red.rfl); exact Red.rfl; (focus (first | (simp; done) | omega | (simp; omega))); (focus (first | (simp; done) | (simp; omega))))
       | ((with_reducible first | apply d_do | apply d_set); rfl; rfl; rfl; (simp (disch := omega) [wrap64, h1]; exact Red.rfl); exact Red.rfl; (focus (first | (simp; done) | omega | (simp; omega))); (focus (first | (simp; done) | (simp; omega))); (focus (first | (simp; done) | (simp; omega)))))
      refine q_drop (.inr rfl) (by simp; exact Red.rfl) (by simp) ⟨?_, rfl⟩
      have h2 : ((lo ≤ a ∧ a ≤ hi) ∧ lo ≤ b ∧ b ≤ hi) ↔ (a ≤ b ∧ lo ≤ a ∧ b ≤ hi) := by omega
      rw [AV.bool.injEq, Bool.eq_iff_iff]; simpa using h2
  · intro h1
    repeat (first
     | (with_reducible first | refine e_seq ?_ | refine e_ops ?_ | refine e_ret ?_ | refine e_exit ?_ | refine e_skip ?_ | refine e_block ?_ | refine e_scope ?_ | refine q_then ?_ | refine q_ret ?_ | refine q_exit ?_ | refine q_block ?_ | refine q_block_ret ?_ | refine q_block_exit ?_)
     | ((with_reducible apply q_block_other); decide)
     | (with_reducible first | refine q_again_ret ?_ | refine q_again_exit ?_ | refine q_scope ?_ | refine q_scope_ret ?_ | refine d_start ?_)
     | ((with_reducible first | apply e_end | apply d_end); (simp; exact Red.rfl))
     | ((with_reducible first | apply e_op | apply e_do); rfl; (simp (disch := omega) [wrap64, h1]; exact Red.rfl); exact Red.rfl; (focus (first | (simp; done) | omega | (simp; omega))))
     | ((with_reducible first | apply e_yes | apply d_yes | apply e_true); (simp (disch := omega) [wrap64, h1]; exact Red.rfl))
     | ((with_reducible first | apply e_no | apply d_no); (simp (disch := omega) [wrap64, h1]; exact Red.rfl); decide)
     | ((with_reducible apply e_no'); (simp (disch := omega) [wrap64, h1]; exact Red.rfl); decide)
     | ((with_reducible first | apply e_un | apply d_un | apply e_false); (simp (disch := omega) [wrap64, h1]; exact Red.rfl))
     | ((with_reducible apply d_pure); rfl; (simp (disch := omega) [wrap64, h1]; exact Red.rfl); exact Red.rfl; (focus (first | (simp; done) | omega | (simp; omega))))
     | ((with_reducible apply d_read); rfl; rfl; (simp (disch := omega) [wrap64, h1]; exact Red.rfl); exact Red.rfl; (focus (first | (simp; done) | omega | (simp; omega))))
     | ((with_reducible apply d_read_); rfl; (simp (disch := omega) [wrap64, h1]; exact Red.rfl); exact Red.rfl; (focus (first | (simp; done) | omega | (simp; omega))); (focus (simp [repast, pr, AOp.sem]; done)))
     | ((with_reducible apply d_new); rfl; (simp (disch := omega) [wrap64, h1]; exact Red.rfl); exact Red.rfl; (focus (first | (simp; done) | omega | (simp; omega))); (focus (first | (simp; done) | (simp; omega))))
     | ((with_reducible first | apply d_do | apply d_set); rfl; rfl; rfl; (simp (disch := omega) [wrap64, h1]; exact Red.rfl); exact Red.rfl; (focus (first | (simp; done) | omega | (simp; omega))); (focus (first | (simp; done) | (simp; omega))); (focus (first | (simp; done) | (simp; omega)))))
    refine q_drop (.inr rfl) (by simp; exact Red.rfl) (by simp) ⟨?_, rfl⟩
    simp [h1]
end Go.Proofs
