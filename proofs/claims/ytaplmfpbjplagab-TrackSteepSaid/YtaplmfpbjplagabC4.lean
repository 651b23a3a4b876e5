/- Stretches in memory, and how many of them are right. -/
import Derived.Test.YtaplmfpbjplagabC3
namespace Go.Proofs
open Go.Abs
attribute [local simp] AOp.den AOpd.ev lk cellsOf rd_new rd_new0 rd_zero rd_succ wr_new wr_new0 wr_zero wr_succ splice fillA binA scal sliceCells List.length_append argsT AV.sc scL AObj.sc resV getAll AR.get AOp.slots opdSlots opdsSlots partSlots eqAt
set_option linter.unusedSimpArgs false
set_option linter.unusedVariables false

theorem le_id {H : Heap} {t t' : List (Nat × AV)} (hv : ∀ x ∈ t', x.2.sc H.length = true ∧ lk t x.1 = x.2) : Le H ⟨t, H⟩ ⟨t', H⟩ := by
  have := le_drop (H := H) (G := []) (t := t) (t' := t') hv
  simpa using this
theorem q_drop0 {H : Heap} {t : List (Nat × AV)} {rs : List AR} {R : AV → Heap → Prop} {e : Exit} {v : AV} (he : e = .normal ∨ e = .ret) (hv : Red (resV ⟨t, H⟩ rs) (some v)) (hs : v.sc H.length = true) (hr : R v H) : EQ (Post H rs R) e t H := by
  have := q_drop (H := H) (G := []) (t := t) (rs := rs) (R := R) (e := e) (v := v) he (by simpa using hv) hs hr
  simpa using this

theorem flat_row {α : Type} {f : α → List AV} {k : Nat} (hk : ∀ a, (f a).length = k) : ∀ (l : List α) (i : Nat) (hi : i < l.length), ((l.flatMap f).drop (i * k)).take k = f l[i]
  | [], i, hi => by simp at hi
  | a :: l, 0, _ => by simp [List.take_append, hk]
  | a :: l, i + 1, hi => by
    have h1 : (i + 1) * k = (f a).length + i * k := by rw [hk, Nat.add_mul]; omega
    rw [List.flatMap_cons, h1, List.drop_append]
    simp only [List.drop_eq_nil_of_le (show (f a).length ≤ (f a).length + i * k by omega), List.nil_append, Nat.add_sub_cancel_left]
    simpa using flat_row hk l i (by simpa using hi)

theorem rd_sub {H : Heap} {id off n : Nat} {vs : List AV} (h : rd H id off n = some vs) {j m : Nat} (hj : j + m ≤ n) : rd H id (off + j) m = some ((vs.drop j).take m) := by
  unfold rd at h ⊢
  split at h
  · rename_i cs own hc
    split at h
    · simp only [Option.some.injEq] at h
      subst h
      rw [if_pos (by omega), List.drop_take, List.take_take, List.drop_drop, Nat.min_eq_left (by omega)]
    · cases h
  · cases h

theorem rd_row {α : Type} {f : α → List AV} {k : Nat} (hk : ∀ a, (f a).length = k) {H : Heap} {id off : Nat} {l : List α} (h : rd H id off (l.length * k) = some (l.flatMap f)) {i : Nat} (hi : i < l.length) : rd H id (off + i * k) k = some (f l[i]) := by
  rw [rd_at h hi, flat_row hk]

structure Str where
  id : Int
  lLo : Int
  lHi : Int
  fLo : Int
  fHi : Int
  rLo : Int
  rHi : Int
  side : Int
  wall : Int

def Str.av (s : Str) : List AV := [.int .i64 s.id, .int .i64 s.lLo, .int .i64 s.lHi, .int .i64 s.fLo, .int .i64 s.fHi, .int .i64 s.rLo, .int .i64 s.rHi, .int .u8 s.side, .int .i64 s.wall]
theorem Str.av_length (s : Str) : s.av.length = 9 := rfl

def Str.ok (s : Str) : Prop := sidedB s.side s.rLo s.rHi = true ∧ (0 ≤ s.id ∧ s.id ≤ 9999) ∧ (s.lLo ≤ s.lHi ∧ 1 ≤ s.lLo ∧ s.lHi ≤ 30000) ∧ (s.fLo ≤ s.fHi ∧ 0 ≤ s.fLo ∧ s.fHi ≤ 5000) ∧ (0 ≤ s.wall ∧ s.wall ≤ 5000)
def okAt (l : List Str) (i : Nat) : Prop := ∃ h : i < l.length, l[i].ok ∧ ∀ _ : 0 < i, (l[i - 1]'(by omega)).id < l[i].id

def limAt (a1 a2 a3 a4 a5 a9 : Int) : Nat → Prop
  | 0 => a1 ≤ a1 ∧ 0 ≤ a1 ∧ a1 ≤ 9999
  | 1 => a2 ≤ a3 ∧ 1 ≤ a2 ∧ a3 ≤ 30000
  | 2 => a4 ≤ a5 ∧ 0 ≤ a4 ∧ a5 ≤ 5000
  | 3 => a9 ≤ a9 ∧ 0 ≤ a9 ∧ a9 ≤ 5000
  | _ => True

theorem c_right (H : Heap) (l : List Str) (id off : Nat) (ex : Bool) (hs : rd H id off (l.length * 9) = some (l.flatMap Str.av)) (hn : (l.length : Int) < 1000000) :
    ACalls Try.prog F.track_right [.slice id off l.length 9 ex] H (fun v h' => h' = H ∧ ∃ k : Nat, v = .int .i64 k ∧ k ≤ l.length ∧ (k = l.length ↔ ∀ i, i < l.length → okAt l i)) := by
  refine acalls_of ok_track_right rfl fun hcl => ?_
  unfold ac_track_right
  simp only [argsT, Nat.zero_add, Nat.reduceAdd]
  have hid := rd_lt hs
  repeat (first
   | (with_reducible first | refine e_seq ?_ | refine e_ops ?_ | refine e_ret ?_ | refine e_exit ?_ | refine e_skip ?_ | refine e_block ?_ | refine e_scope ?_ | refine q_then ?_ | refine q_ret ?_ | refine q_exit ?_ | refine q_block ?_ | refine q_block_ret ?_ | refine q_block_exit ?_)
   | ((with_reducible apply q_block_other); decide)
   | (with_reducible first | refine q_again_ret ?_ | refine q_again_exit ?_ | refine q_scope ?_ | refine q_scope_ret ?_ | refine d_start ?_)
   | ((with_reducible first | apply e_end | apply d_end); (simp; exact Red.rfl))
   | ((with_reducible first | apply e_op | apply e_do); rfl; (simp (disch := omega) [wrap64]; exact Red.rfl); exact Red.rfl; (focus (first | (simp; done) | omega | (simp; omega))))
   | ((with_reducible first | apply e_yes | apply d_yes | apply e_true); (simp (disch := omega) [wrap64]; exact Red.rfl))
   | ((with_reducible first | apply e_no | apply d_no); (simp (disch := omega) [wrap64]; exact Red.rfl); decide)
   | ((with_reducible apply e_no'); (simp (disch := omega) [wrap64]; exact Red.rfl); decide)
   | ((with_reducible first | apply e_un | apply d_un | apply e_false); (simp (disch := omega) [wrap64]; exact Red.rfl))
   | ((with_reducible apply d_pure); rfl; (simp (disch := omega) [wrap64]; exact Red.rfl); exact Red.rfl; (focus (first | (simp; done) | omega | (simp; omega))))
   | ((with_reducible apply d_read); rfl; rfl; (simp (disch := omega) [wrap64]; exact Red.rfl); exact Red.rfl; (focus (first | (simp; done) | omega | (simp; omega))))
   | ((with_reducible apply d_read_); rfl; (simp (disch := omega) [wrap64]; exact Red.rfl); exact Red.rfl; (focus (first | (simp; done) | omega | (simp; omega))); (focus (simp [repast, pr, AOp.sem]; done)))
   | ((with_reducible apply d_new); rfl; (simp (disch := omega) [wrap64]; exact Red.rfl); exact Red.rfl; (focus (first | (simp; done) | omega | (simp; omega))); (focus (first | (simp; done) | (simp; omega))))
   | ((with_reducible first | apply d_do | apply d_set); rfl; rfl; rfl; (simp (disch := omega) [wrap64]; exact Red.rfl); exact Red.rfl; (focus (first | (simp; done) | omega | (simp; omega))); (focus (first | (simp; done) | (simp; omega))); (focus (first | (simp; done) | (simp; omega)))))
  refine e_loop (ι := { i : Nat // i ≤ l.length ∧ ∀ j, j < i → okAt l j })
    (fun i => [(0, .slice id off l.length 9 ex), (3, .int .i64 i.1), (9, .int .i64 l.length), (10, .int .i64 i.1)]) (fun _ => H) (fun i => l.length - i.1) ⟨0, by simp⟩ ?_ ?_
  · exact .inr <| le_id (by simp [hid])
  · rintro ⟨i, hi1, hi2⟩
    dsimp only
    repeat (first
     | (with_reducible first | refine e_seq ?_ | refine e_ops ?_ | refine e_ret ?_ | refine e_exit ?_ | refine e_skip ?_ | refine e_block ?_ | refine e_scope ?_ | refine q_then ?_ | refine q_ret ?_ | refine q_exit ?_ | refine q_block ?_ | refine q_block_ret ?_ | refine q_block_exit ?_)
     | ((with_reducible apply q_block_other); decide)
     | (with_reducible first | refine q_again_ret ?_ | refine q_again_exit ?_ | refine q_scope ?_ | refine q_scope_ret ?_ | refine d_start ?_)
     | ((with_reducible first | apply e_end | apply d_end); (simp; exact Red.rfl))
     | ((with_reducible first | apply e_op | apply e_do); rfl; (simp (disch := omega) [wrap64]; exact Red.rfl); exact Red.rfl; (focus (first | (simp; done) | omega | (simp; omega))))
     | ((with_reducible first | apply e_yes | apply d_yes | apply e_true); (simp (disch := omega) [wrap64]; exact Red.rfl))
     | ((with_reducible first | apply e_no | apply d_no); (simp (disch := omega) [wrap64]; exact Red.rfl); decide)
     | ((with_reducible apply e_no'); (simp (disch := omega) [wrap64]; exact Red.rfl); decide)
     | ((with_reducible first | apply e_un | apply d_un | apply e_false); (simp (disch := omega) [wrap64]; exact Red.rfl))
     | ((with_reducible apply d_pure); rfl; (simp (disch := omega) [wrap64]; exact Red.rfl); exact Red.rfl; (focus (first | (simp; done) | omega | (simp; omega))))
     | ((with_reducible apply d_read); rfl; rfl; (simp (disch := omega) [wrap64]; exact Red.rfl); exact Red.rfl; (focus (first | (simp; done) | omega | (simp; omega))))
     | ((with_reducible apply d_read_); rfl; (simp (disch := omega) [wrap64]; exact Red.rfl); exact Red.rfl; (focus (first | (simp; done) | omega | (simp; omega))); (focus (simp [repast, pr, AOp.sem]; done)))
     | ((with_reducible apply d_new); rfl; (simp (disch := omega) [wrap64]; exact Red.rfl); exact Red.rfl; (focus (first | (simp; done) | omega | (simp; omega))); (focus (first | (simp; done) | (simp; omega))))
     | ((with_reducible first | apply d_do | apply d_set); rfl; rfl; rfl; (simp (disch := omega) [wrap64]; exact Red.rfl); exact Red.rfl; (focus (first | (simp; done) | omega | (simp; omega))); (focus (first | (simp; done) | (simp; omega))); (focus (first | (simp; done) | (simp; omega)))))
    (with_reducible apply e_dec); (simp; exact Red.rfl)
    · intro hlt
      have hlt : i < l.length := by omega
      have hx := rd_row Str.av_length hs hlt
      generalize hsi : l[i] = s at hx
      obtain ⟨a1, a2, a3, a4, a5, a6, a7, a8, a9⟩ := s
      simp only [Str.av] at hx
      repeat (first
       | (with_reducible first | refine e_seq ?_ | refine e_ops ?_ | refine e_ret ?_ | refine e_exit ?_ | refine e_skip ?_ | refine e_block ?_ | refine e_scope ?_ | refine q_then ?_ | refine q_ret ?_ | refine q_exit ?_ | refine q_block ?_ | refine q_block_ret ?_ | refine q_block_exit ?_)
       | ((with_reducible apply q_block_other); decide)
       | (with_reducible first | refine q_again_ret ?_ | refine q_again_exit ?_ | refine q_scope ?_ | refine q_scope_ret ?_ | refine d_start ?_)
       | ((with_reducible first | apply e_end | apply d_end); (simp; exact Red.rfl))
       | ((with_reducible first | apply e_op | apply e_do); rfl; (simp (disch := omega) [wrap64, rd_old _ hid, hx]; exact Red.rfl); exact Red.rfl; (focus (first | (simp; done) | omega | (simp; omega))))
       | ((with_reducible first | apply e_yes | apply d_yes | apply e_true); (simp (disch := omega) [wrap64, rd_old _ hid, hx]; exact Red.rfl))
       | ((with_reducible first | apply e_no | apply d_no); (simp (disch := omega) [wrap64, rd_old _ hid, hx]; exact Red.rfl); decide)
       | ((with_reducible apply e_no'); (simp (disch := omega) [wrap64, rd_old _ hid, hx]; exact Red.rfl); decide)
       | ((with_reducible first | apply e_un | apply d_un | apply e_false); (simp (disch := omega) [wrap64, rd_old _ hid, hx]; exact Red.rfl))
       | ((with_reducible apply d_pure); rfl; (simp (disch := omega) [wrap64, rd_old _ hid, hx]; exact Red.rfl); exact Red.rfl; (focus (first | (simp; done) | omega | (simp; omega))))
       | ((with_reducible apply d_read); rfl; rfl; (simp (disch := omega) [wrap64, rd_old _ hid, hx]; exact Red.rfl); exact Red.rfl; (focus (first | (simp; done) | omega | (simp; omega))))
       | ((with_reducible apply d_read_); rfl; (simp (disch := omega) [wrap64, rd_old _ hid, hx]; exact Red.rfl); exact Red.rfl; (focus (first | (simp; done) | omega | (simp; omega))); (focus (simp [repast, pr, AOp.sem]; done)))
       | ((with_reducible apply d_new); rfl; (simp (disch := omega) [wrap64, rd_old _ hid, hx]; exact Red.rfl); exact Red.rfl; (focus (first | (simp; done) | omega | (simp; omega))); (focus (first | (simp; done) | (simp; omega))))
       | ((with_reducible first | apply d_do | apply d_set); rfl; rfl; rfl; (simp (disch := omega) [wrap64, rd_old _ hid, hx]; exact Red.rfl); exact Red.rfl; (focus (first | (simp; done) | omega | (simp; omega))); (focus (first | (simp; done) | (simp; omega))); (focus (first | (simp; done) | (simp; omega)))))
      refine d_cut (fun t' h' => ∃ b : Bool, t' = [(0, .slice id off l.length 9 ex), (3, .int .i64 i), (5, .ptr H.length 0), (9, .int .i64 l.length), (10, .int .i64 i), (34, .bool b)] ∧ h' = H ++ [.cells [.int .i64 a1, .int .i64 a2, .int .i64 a3, .int .i64 a4, .int .i64 a5, .int .i64 a6, .int .i64 a7, .int .u8 a8, .int .i64 a9] true] ∧ (b = false ↔ sidedB a8 a6 a7 = true ∧ ∀ _ : 0 < i, (l[i - 1]'(by omega)).id < a1)) ?_ ?_
      · (with_reducible apply dg_yes); (simp; exact Red.rfl)
        · intro h0
          have h0 : 0 < i := by omega
          have hy : rd H id (off + (i - 1) * 9) 1 = some [.int .i64 (l[i - 1]'(by omega)).id] := by
            have := rd_sub (rd_row Str.av_length hs (show i - 1 < l.length by omega)) (show 0 + 1 ≤ 9 by omega)
            simpa [Str.av] using this
          generalize hz : (l[i - 1]'(by omega)).id = z at hy
          repeat (first
           | (with_reducible first | refine e_seq ?_ | refine e_ops ?_ | refine e_ret ?_ | refine e_exit ?_ | refine e_skip ?_ | refine e_block ?_ | refine e_scope ?_ | refine q_then ?_ | refine q_ret ?_ | refine q_exit ?_ | refine q_block ?_ | refine q_block_ret ?_ | refine q_block_exit ?_)
           | ((with_reducible apply q_block_other); decide)
           | (with_reducible first | refine q_again_ret ?_ | refine q_again_exit ?_ | refine q_scope ?_ | refine q_scope_ret ?_ | refine d_start ?_)
           | ((with_reducible first | apply e_end | apply d_end); (simp; exact Red.rfl))
           | ((with_reducible first | apply e_op | apply e_do); rfl; (simp (disch := omega) [wrap64, h0, rd_old _ hid, hy]; exact Red.rfl); exact Red.rfl; (focus (first | (simp; done) | omega | (simp; omega))))
           | ((with_reducible first | apply e_yes | apply d_yes | apply e_true); (simp (disch := omega) [wrap64, h0, rd_old _ hid, hy]; exact Red.rfl))
           | ((with_reducible first | apply e_no | apply d_no); (simp (disch := omega) [wrap64, h0, rd_old _ hid, hy]; exact Red.rfl); decide)
           | ((with_reducible apply e_no'); (simp (disch := omega) [wrap64, h0, rd_old _ hid, hy]; exact Red.rfl); decide)
           | ((with_reducible first | apply e_un | apply d_un | apply e_false); (simp (disch := omega) [wrap64, h0, rd_old _ hid, hy]; exact Red.rfl))
           | ((with_reducible apply d_pure); rfl; (simp (disch := omega) [wrap64, h0, rd_old _ hid, hy]; exact Red.rfl); exact Red.rfl; (focus (first | (simp; done) | omega | (simp; omega))))
           | ((with_reducible apply d_read); rfl; rfl; (simp (disch := omega) [wrap64, h0, rd_old _ hid, hy]; exact Red.rfl); exact Red.rfl; (focus (first | (simp; done) | omega | (simp; omega))))
           | ((with_reducible apply d_read_); rfl; (simp (disch := omega) [wrap64, h0, rd_old _ hid, hy]; exact Red.rfl); exact Red.rfl; (focus (first | (simp; done) | omega | (simp; omega))); (focus (simp [repast, pr, AOp.sem]; done)))
           | ((with_reducible apply d_new); rfl; (simp (disch := omega) [wrap64, h0, rd_old _ hid, hy]; exact Red.rfl); exact Red.rfl; (focus (first | (simp; done) | omega | (simp; omega))); (focus (first | (simp; done) | (simp; omega))))
           | ((with_reducible first | apply d_do | apply d_set); rfl; rfl; rfl; (simp (disch := omega) [wrap64, h0, rd_old _ hid, hy]; exact Red.rfl); exact Red.rfl; (focus (first | (simp; done) | omega | (simp; omega))); (focus (first | (simp; done) | (simp; omega))); (focus (first | (simp; done) | (simp; omega)))))
          (with_reducible apply dg_no); (simp; exact Red.rfl)
          · intro h1
            repeat (first
             | (with_reducible first | refine e_seq ?_ | refine e_ops ?_ | refine e_ret ?_ | refine e_exit ?_ | refine e_skip ?_ | refine e_block ?_ | refine e_scope ?_ | refine q_then ?_ | refine q_ret ?_ | refine q_exit ?_ | refine q_block ?_ | refine q_block_ret ?_ | refine q_block_exit ?_)
             | ((with_reducible apply q_block_other); decide)
             | (with_reducible first | refine q_again_ret ?_ | refine q_again_exit ?_ | refine q_scope ?_ | refine q_scope_ret ?_ | refine d_start ?_)
             | ((with_reducible first | apply e_end | apply d_end); (simp; exact Red.rfl))
             | ((with_reducible first | apply e_op | apply e_do); rfl; (simp (disch := omega) [wrap64, h1]; exact Red.rfl); exact Red.rfl; (focus (first | (simp; done) | omega | (simp; omega))))
             | ((with_reducible first | apply e_yes | apply d_yes | apply e_true); (simp (disch := omega) [wrap64, h1]; exact Red.rfl))
             | ((with_reducible first | apply e_no | apply d_no); (simp (disch := omega) [wrap64, h1]; exact Red.rfl); decide)
             | ((with_reducible apply e_no'); (simp (disch := omega) [wrap64, h1]; exact Red.rfl); decide)
             | ((with_reducible first | apply e_un | apply d_un | apply e_false); (simp (disch := omega) [wrap64, h1]; exact Red.rfl))
             | ((with_reducible apply d_pure); rfl; (simp (disch := omega) [wrap64, h1]; exact Red.rfl); exact Red.rfl; (focus (first | (simp; done) | omega | (simp; omega))))
             | ((with_reducible apply d_read); rfl; rfl; (simp (disch := omega) [wrap64, h1]; exact Red.rfl); exact Red.rfl; (focus (first | (simp; done) | omega | (simp; omega))))
             | ((with_reducible apply d_read_); rfl; (simp (disch := omega) [wrap64, h1]; exact Red.rfl); exact Red.rfl; (focus (first | (simp; done) | omega | (simp; omega))); (focus (simp [repast, pr, AOp.sem]; done)))
             | ((with_reducible apply d_new); rfl; (simp (disch := omega) [wrap64, h1]; exact Red.rfl); exact Red.rfl; (focus (first | (simp; done) | omega | (simp; omega))); (focus (first | (simp; done) | (simp; omega))))
             | ((with_reducible first | apply d_do | apply d_set); rfl; rfl; rfl; (simp (disch := omega) [wrap64, h1]; exact Red.rfl); exact Red.rfl; (focus (first | (simp; done) | omega | (simp; omega))); (focus (first | (simp; done) | (simp; omega))); (focus (first | (simp; done) | (simp; omega)))))
            exact q_keep ⟨true, rfl, rfl, by simp [hz, h0]; omega⟩
          · intro h1
            repeat (first
             | (with_reducible first | refine e_seq ?_ | refine e_ops ?_ | refine e_ret ?_ | refine e_exit ?_ | refine e_skip ?_ | refine e_block ?_ | refine e_scope ?_ | refine q_then ?_ | refine q_ret ?_ | refine q_exit ?_ | refine q_block ?_ | refine q_block_ret ?_ | refine q_block_exit ?_)
             | ((with_reducible apply q_block_other); decide)
             | (with_reducible first | refine q_again_ret ?_ | refine q_again_exit ?_ | refine q_scope ?_ | refine q_scope_ret ?_ | refine d_start ?_)
             | ((with_reducible first | apply e_end | apply d_end); (simp; exact Red.rfl))
             | ((with_reducible first | apply e_op | apply e_do); rfl; (simp (disch := omega) [wrap64, h1]; exact Red.rfl); exact Red.rfl; (focus (first | (simp; done) | omega | (simp; omega))))
             | ((with_reducible first | apply e_yes | apply d_yes | apply e_true); (simp (disch := omega) [wrap64, h1]; exact Red.rfl))
             | ((with_reducible first | apply e_no | apply d_no); (simp (disch := omega) [wrap64, h1]; exact Red.rfl); decide)
             | ((with_reducible apply e_no'); (simp (disch := omega) [wrap64, h1]; exact Red.rfl); decide)
             | ((with_reducible first | apply e_un | apply d_un | apply e_false); (simp (disch := omega) [wrap64, h1]; exact Red.rfl))
             | ((with_reducible apply d_pure); rfl; (simp (disch := omega) [wrap64, h1]; exact Red.rfl); exact Red.rfl; (focus (first | (simp; done) | omega | (simp; omega))))
             | ((with_reducible apply d_read); rfl; rfl; (simp (disch := omega) [wrap64, h1]; exact Red.rfl); exact Red.rfl; (focus (first | (simp; done) | omega | (simp; omega))))
             | ((with_reducible apply d_read_); rfl; (simp (disch := omega) [wrap64, h1]; exact Red.rfl); exact Red.rfl; (focus (first | (simp; done) | omega | (simp; omega))); (focus (simp [repast, pr, AOp.sem]; done)))
             | ((with_reducible apply d_new); rfl; (simp (disch := omega) [wrap64, h1]; exact Red.rfl); exact Red.rfl; (focus (first | (simp; done) | omega | (simp; omega))); (focus (first | (simp; done) | (simp; omega))))
             | ((with_reducible first | apply d_do | apply d_set); rfl; rfl; rfl; (simp (disch := omega) [wrap64, h1]; exact Red.rfl); exact Red.rfl; (focus (first | (simp; done) | omega | (simp; omega))); (focus (first | (simp; done) | (simp; omega))); (focus (first | (simp; done) | (simp; omega)))))
            (with_reducible apply d_call); (simp; exact Red.rfl); exact c_sided _ _ _ _ _ _ _ _ _ _; simp
            repeat (first
             | (with_reducible first | refine e_seq ?_ | refine e_ops ?_ | refine e_ret ?_ | refine e_exit ?_ | refine e_skip ?_ | refine e_block ?_ | refine e_scope ?_ | refine q_then ?_ | refine q_ret ?_ | refine q_exit ?_ | refine q_block ?_ | refine q_block_ret ?_ | refine q_block_exit ?_)
             | ((with_reducible apply q_block_other); decide)
             | (with_reducible first | refine q_again_ret ?_ | refine q_again_exit ?_ | refine q_scope ?_ | refine q_scope_ret ?_ | refine d_start ?_)
             | ((with_reducible first | apply e_end | apply d_end); (simp; exact Red.rfl))
             | ((with_reducible first | apply e_op | apply e_do); rfl; (simp (disch := omega) [wrap64, h1]; exact Red.rfl); exact Red.rfl; (focus (first | (simp; done) | omega | (simp; omega))))
             | ((with_reducible first | apply e_yes | apply d_yes | apply e_true); (simp (disch := omega) [wrap64, h1]; exact Red.rfl))
             | ((with_reducible first | apply e_no | apply d_no); (simp (disch := omega) [wrap64, h1]; exact Red.rfl); decide)
             | ((with_reducible apply e_no'); (simp (disch := omega) [wrap64, h1]; exact Red.rfl); decide)
             | ((with_reducible first | apply e_un | apply d_un | apply e_false); (simp (disch := omega) [wrap64, h1]; exact Red.rfl))
             | ((with_reducible apply d_pure); rfl; (simp (disch := omega) [wrap64, h1]; exact Red.rfl); exact Red.rfl; (focus (first | (simp; done) | omega | (simp; omega))))
             | ((with_reducible apply d_read); rfl; rfl; (simp (disch := omega) [wrap64, h1]; exact Red.rfl); exact Red.rfl; (focus (first | (simp; done) | omega | (simp; omega))))
             | ((with_reducible apply d_read_); rfl; (simp (disch := omega) [wrap64, h1]; exact Red.rfl); exact Red.rfl; (focus (first | (simp; done) | omega | (simp; omega))); (focus (simp [repast, pr, AOp.sem]; done)))
             | ((with_reducible apply d_new); rfl; (simp (disch := omega) [wrap64, h1]; exact Red.rfl); exact Red.rfl; (focus (first | (simp; done) | omega | (simp; omega))); (focus (first | (simp; done) | (simp; omega))))
             | ((with_reducible first | apply d_do | apply d_set); rfl; rfl; rfl; (simp (disch := omega) [wrap64, h1]; exact Red.rfl); exact Red.rfl; (focus (first | (simp; done) | omega | (simp; omega))); (focus (first | (simp; done) | (simp; omega))); (focus (first | (simp; done) | (simp; omega)))))
            exact q_keep ⟨!sidedB a8 a6 a7, rfl, rfl, by simp [hz, h0]; omega⟩
        · intro h0
          repeat (first
           | (with_reducible first | refine e_seq ?_ | refine e_ops ?_ | refine e_ret ?_ | refine e_exit ?_ | refine e_skip ?_ | refine e_block ?_ | refine e_scope ?_ | refine q_then ?_ | refine q_ret ?_ | refine q_exit ?_ | refine q_block ?_ | refine q_block_ret ?_ | refine q_block_exit ?_)
           | ((with_reducible apply q_block_other); decide)
           | (with_reducible first | refine q_again_ret ?_ | refine q_again_exit ?_ | refine q_scope ?_ | refine q_scope_ret ?_ | refine d_start ?_)
           | ((with_reducible first | apply e_end | apply d_end); (simp; exact Red.rfl))
           | ((with_reducible first | apply e_op | apply e_do); rfl; (simp (disch := omega) [wrap64, h0]; exact Red.rfl); exact Red.rfl; (focus (first | (simp; done) | omega | (simp; omega))))
           | ((with_reducible first | apply e_yes | apply d_yes | apply e_true); (simp (disch := omega) [wrap64, h0]; exact Red.rfl))
           | ((with_reducible first | apply e_no | apply d_no); (simp (disch := omega) [wrap64, h0]; exact Red.rfl); decide)
           | ((with_reducible apply e_no'); (simp (disch := omega) [wrap64, h0]; exact Red.rfl); decide)
           | ((with_reducible first | apply e_un | apply d_un | apply e_false); (simp (disch := omega) [wrap64, h0]; exact Red.rfl))
           | ((with_reducible apply d_pure); rfl; (simp (disch := omega) [wrap64, h0]; exact Red.rfl); exact Red.rfl; (focus (first | (simp; done) | omega | (simp; omega))))
           | ((with_reducible apply d_read); rfl; rfl; (simp (disch := omega) [wrap64, h0]; exact Red.rfl); exact Red.rfl; (focus (first | (simp; done) | omega | (simp; omega))))
           | ((with_reducible apply d_read_); rfl; (simp (disch := omega) [wrap64, h0]; exact Red.rfl); exact Red.rfl; (focus (first | (simp; done) | omega | (simp; omega))); (focus (simp [repast, pr, AOp.sem]; done)))
           | ((with_reducible apply d_new); rfl; (simp (disch := omega) [wrap64, h0]; exact Red.rfl); exact Red.rfl; (focus (first | (simp; done) | omega | (simp; omega))); (focus (first | (simp; done) | (simp; omega))))
           | ((with_reducible first | apply d_do | apply d_set); rfl; rfl; rfl; (simp (disch := omega) [wrap64, h0]; exact Red.rfl); exact Red.rfl; (focus (first | (simp; done) | omega | (simp; omega))); (focus (first | (simp; done) | (simp; omega))); (focus (first | (simp; done) | (simp; omega)))))
          (with_reducible apply d_call); (simp; exact Red.rfl); exact c_sided _ _ _ _ _ _ _ _ _ _; simp
          repeat (first
           | (with_reducible first | refine e_seq ?_ | refine e_ops ?_ | refine e_ret ?_ | refine e_exit ?_ | refine e_skip ?_ | refine e_block ?_ | refine e_scope ?_ | refine q_then ?_ | refine q_ret ?_ | refine q_exit ?_ | refine q_block ?_ | refine q_block_ret ?_ | refine q_block_exit ?_)
           | ((with_reducible apply q_block_other); decide)
           | (with_reducible first | refine q_again_ret ?_ | refine q_again_exit ?_ | refine q_scope ?_ | refine q_scope_ret ?_ | refine d_start ?_)
           | ((with_reducible first | apply e_end | apply d_end); (simp; exact Red.rfl))
           | ((with_reducible first | apply e_op | apply e_do); rfl; (simp (disch := omega) [wrap64, h0]; exact Red.rfl); exact Red.rfl; (focus (first | (simp; done) | omega | (simp; omega))))
           | ((with_reducible first | apply e_yes | apply d_yes | apply e_true); (simp (disch := omega) [wrap64, h0]; exact Red.rfl))
           | ((with_reducible first | apply e_no | apply d_no); (simp (disch := omega) [wrap64, h0]; exact Red.rfl); decide)
           | ((with_reducible apply e_no'); (simp (disch := omega) [wrap64, h0]; exact Red.rfl); decide)
           | ((with_reducible first | apply e_un | apply d_un | apply e_false); (simp (disch := omega) [wrap64, h0]; exact Red.rfl))
           | ((with_reducible apply d_pure); rfl; (simp (disch := omega) [wrap64, h0]; exact Red.rfl); exact Red.rfl; (focus (first | (simp; done) | omega | (simp; omega))))
           | ((with_reducible apply d_read); rfl; rfl; (simp (disch := omega) [wrap64, h0]; exact Red.rfl); exact Red.rfl; (focus (first | (simp; done) | omega | (simp; omega))))
           | ((with_reducible apply d_read_); rfl; (simp (disch := omega) [wrap64, h0]; exact Red.rfl); exact Red.rfl; (focus (first | (simp; done) | omega | (simp; omega))); (focus (simp [repast, pr, AOp.sem]; done)))
           | ((with_reducible apply d_new); rfl; (simp (disch := omega) [wrap64, h0]; exact Red.rfl); exact Red.rfl; (focus (first | (simp; done) | omega | (simp; omega))); (focus (first | (simp; done) | (simp; omega))))
           | ((with_reducible first | apply d_do | apply d_set); rfl; rfl; rfl; (simp (disch := omega) [wrap64, h0]; exact Red.rfl); exact Red.rfl; (focus (first | (simp; done) | omega | (simp; omega))); (focus (first | (simp; done) | (simp; omega))); (focus (first | (simp; done) | (simp; omega)))))
          exact q_keep ⟨!sidedB a8 a6 a7, rfl, rfl, by simp [show ¬ 0 < i by omega]⟩
      · rintro _ _ ⟨b, rfl, rfl, hb⟩
        cases b with
        | true =>
          repeat (first
           | (with_reducible first | refine e_seq ?_ | refine e_ops ?_ | refine e_ret ?_ | refine e_exit ?_ | refine e_skip ?_ | refine e_block ?_ | refine e_scope ?_ | refine q_then ?_ | refine q_ret ?_ | refine q_exit ?_ | refine q_block ?_ | refine q_block_ret ?_ | refine q_block_exit ?_)
           | ((with_reducible apply q_block_other); decide)
           | (with_reducible first | refine q_again_ret ?_ | refine q_again_exit ?_ | refine q_scope ?_ | refine q_scope_ret ?_ | refine d_start ?_)
           | ((with_reducible first | apply e_end | apply d_end); (simp; exact Red.rfl))
           | ((with_reducible first | apply e_op | apply e_do); rfl; (simp (disch := omega) [wrap64]; exact Red.rfl); exact Red.rfl; (focus (first | (simp; done) | omega | (simp; omega))))
           | ((with_reducible first | apply e_yes | apply d_yes | apply e_true); (simp (disch := omega) [wrap64]; exact Red.rfl))
           | ((with_reducible first | apply e_no | apply d_no); (simp (disch := omega) [wrap64]; exact Red.rfl); decide)
           | ((with_reducible apply e_no'); (simp (disch := omega) [wrap64]; exact Red.rfl); decide)
           | ((with_reducible first | apply e_un | apply d_un | apply e_false); (simp (disch := omega) [wrap64]; exact Red.rfl))
           | ((with_reducible apply d_pure); rfl; (simp (disch := omega) [wrap64]; exact Red.rfl); exact Red.rfl; (focus (first | (simp; done) | omega | (simp; omega))))
           | ((with_reducible apply d_read); rfl; rfl; (simp (disch := omega) [wrap64]; exact Red.rfl); exact Red.rfl; (focus (first | (simp; done) | omega | (simp; omega))))
           | ((with_reducible apply d_read_); rfl; (simp (disch := omega) [wrap64]; exact Red.rfl); exact Red.rfl; (focus (first | (simp; done) | omega | (simp; omega))); (focus (simp [repast, pr, AOp.sem]; done)))
           | ((with_reducible apply d_new); rfl; (simp (disch := omega) [wrap64]; exact Red.rfl); exact Red.rfl; (focus (first | (simp; done) | omega | (simp; omega))); (focus (first | (simp; done) | (simp; omega))))
           | ((with_reducible first | apply d_do | apply d_set); rfl; rfl; rfl; (simp (disch := omega) [wrap64]; exact Red.rfl); exact Red.rfl; (focus (first | (simp; done) | omega | (simp; omega))); (focus (first | (simp; done) | (simp; omega))); (focus (first | (simp; done) | (simp; omega)))))
          refine q_drop (.inr rfl) (by simp; exact Red.rfl) (by simp) ⟨rfl, i, rfl, hi1, ?_⟩
          refine ⟨fun h => by omega, fun hall => ?_⟩
          obtain ⟨_, hok, hlt2⟩ := hall i hlt
          rw [hsi] at hok hlt2
          have := hb.2 ⟨hok.1, hlt2⟩
          cases this
        | false =>
          repeat (first
           | (with_reducible first | refine e_seq ?_ | refine e_ops ?_ | refine e_ret ?_ | refine e_exit ?_ | refine e_skip ?_ | refine e_block ?_ | refine e_scope ?_ | refine q_then ?_ | refine q_ret ?_ | refine q_exit ?_ | refine q_block ?_ | refine q_block_ret ?_ | refine q_block_exit ?_)
           | ((with_reducible apply q_block_other); decide)
           | (with_reducible first | refine q_again_ret ?_ | refine q_again_exit ?_ | refine q_scope ?_ | refine q_scope_ret ?_ | refine d_start ?_)
           | ((with_reducible first | apply e_end | apply d_end); (simp; exact Red.rfl))
           | ((with_reducible first | apply e_op | apply e_do); rfl; (simp (disch := omega) [wrap64]; exact Red.rfl); exact Red.rfl; (focus (first | (simp; done) | omega | (simp; omega))))
           | ((with_reducible first | apply e_yes | apply d_yes | apply e_true); (simp (disch := omega) [wrap64]; exact Red.rfl))
           | ((with_reducible first | apply e_no | apply d_no); (simp (disch := omega) [wrap64]; exact Red.rfl); decide)
           | ((with_reducible apply e_no'); (simp (disch := omega) [wrap64]; exact Red.rfl); decide)
           | ((with_reducible first | apply e_un | apply d_un | apply e_false); (simp (disch := omega) [wrap64]; exact Red.rfl))
           | ((with_reducible apply d_pure); rfl; (simp (disch := omega) [wrap64]; exact Red.rfl); exact Red.rfl; (focus (first | (simp; done) | omega | (simp; omega))))
           | ((with_reducible apply d_read); rfl; rfl; (simp (disch := omega) [wrap64]; exact Red.rfl); exact Red.rfl; (focus (first | (simp; done) | omega | (simp; omega))))
           | ((with_reducible apply d_read_); rfl; (simp (disch := omega) [wrap64]; exact Red.rfl); exact Red.rfl; (focus (first | (simp; done) | omega | (simp; omega))); (focus (simp [repast, pr, AOp.sem]; done)))
           | ((with_reducible apply d_new); rfl; (simp (disch := omega) [wrap64]; exact Red.rfl); exact Red.rfl; (focus (first | (simp; done) | omega | (simp; omega))); (focus (first | (simp; done) | (simp; omega))))
           | ((with_reducible first | apply d_do | apply d_set); rfl; rfl; rfl; (simp (disch := omega) [wrap64]; exact Red.rfl); exact Red.rfl; (focus (first | (simp; done) | omega | (simp; omega))); (focus (first | (simp; done) | (simp; omega))); (focus (first | (simp; done) | (simp; omega)))))
          (with_reducible apply e_call); (simp; exact Red.rfl); exact c_limits _ _ _ _ _ _ _ _ _ _
          rintro _ _ ⟨rfl, rfl⟩
          repeat (first
           | (with_reducible first | refine e_seq ?_ | refine e_ops ?_ | refine e_ret ?_ | refine e_exit ?_ | refine e_skip ?_ | refine e_block ?_ | refine e_scope ?_ | refine q_then ?_ | refine q_ret ?_ | refine q_exit ?_ | refine q_block ?_ | refine q_block_ret ?_ | refine q_block_exit ?_)
           | ((with_reducible apply q_block_other); decide)
           | (with_reducible first | refine q_again_ret ?_ | refine q_again_exit ?_ | refine q_scope ?_ | refine q_scope_ret ?_ | refine d_start ?_)
           | ((with_reducible first | apply e_end | apply d_end); (simp; exact Red.rfl))
           | ((with_reducible first | apply e_op | apply e_do); rfl; (simp (disch := omega) [wrap64]; exact Red.rfl); exact Red.rfl; (focus (first | (simp; done) | omega | (simp; omega))))
           | ((with_reducible first | apply e_yes | apply d_yes | apply e_true); (simp (disch := omega) [wrap64]; exact Red.rfl))
           | ((with_reducible first | apply e_no | apply d_no); (simp (disch := omega) [wrap64]; exact Red.rfl); decide)
           | ((with_reducible apply e_no'); (simp (disch := omega) [wrap64]; exact Red.rfl); decide)
           | ((with_reducible first | apply e_un | apply d_un | apply e_false); (simp (disch := omega) [wrap64]; exact Red.rfl))
           | ((with_reducible apply d_pure); rfl; (simp (disch := omega) [wrap64]; exact Red.rfl); exact Red.rfl; (focus (first | (simp; done) | omega | (simp; omega))))
           | ((with_reducible apply d_read); rfl; rfl; (simp (disch := omega) [wrap64]; exact Red.rfl); exact Red.rfl; (focus (first | (simp; done) | omega | (simp; omega))))
           | ((with_reducible apply d_read_); rfl; (simp (disch := omega) [wrap64]; exact Red.rfl); exact Red.rfl; (focus (first | (simp; done) | omega | (simp; omega))); (focus (simp [repast, pr, AOp.sem]; done)))
           | ((with_reducible apply d_new); rfl; (simp (disch := omega) [wrap64]; exact Red.rfl); exact Red.rfl; (focus (first | (simp; done) | omega | (simp; omega))); (focus (first | (simp; done) | (simp; omega))))
           | ((with_reducible first | apply d_do | apply d_set); rfl; rfl; rfl; (simp (disch := omega) [wrap64]; exact Red.rfl); exact Red.rfl; (focus (first | (simp; done) | omega | (simp; omega))); (focus (first | (simp; done) | (simp; omega))); (focus (first | (simp; done) | (simp; omega)))))
          refine e_loop (ι := { k : Nat // k ≤ 4 ∧ ∀ j, j < k → limAt a1 a2 a3 a4 a5 a9 j })
            (fun k => [(0, .slice id off l.length 9 ex), (3, .int .i64 i), (9, .int .i64 l.length), (10, .int .i64 i), (36, .agg [.int .i64 a1, .int .i64 a1, .int .i64 0, .int .i64 9999, .int .i64 a2, .int .i64 a3, .int .i64 1, .int .i64 30000, .int .i64 a4, .int .i64 a5, .int .i64 0, .int .i64 5000, .int .i64 a9, .int .i64 a9, .int .i64 0, .int .i64 5000]), (37, .int .i64 k.1)]) (fun _ => H) (fun k => 4 - k.1) ⟨0, by simp⟩ ?_ ?_
          · exact .inr <| le_drop (by simp [hid])
          · rintro ⟨k, hk1, hk2⟩
            dsimp only
            repeat (first
             | (with_reducible first | refine e_seq ?_ | refine e_ops ?_ | refine e_ret ?_ | refine e_exit ?_ | refine e_skip ?_ | refine e_block ?_ | refine e_scope ?_ | refine q_then ?_ | refine q_ret ?_ | refine q_exit ?_ | refine q_block ?_ | refine q_block_ret ?_ | refine q_block_exit ?_)
             | ((with_reducible apply q_block_other); decide)
             | (with_reducible first | refine q_again_ret ?_ | refine q_again_exit ?_ | refine q_scope ?_ | refine q_scope_ret ?_ | refine d_start ?_)
             | ((with_reducible first | apply e_end | apply d_end); (simp; exact Red.rfl))
             | ((with_reducible first | apply e_op | apply e_do); rfl; (simp (disch := omega) [wrap64]; exact Red.rfl); exact Red.rfl; (focus (first | (simp; done) | omega | (simp; omega))))
             | ((with_reducible first | apply e_yes | apply d_yes | apply e_true); (simp (disch := omega) [wrap64]; exact Red.rfl))
             | ((with_reducible first | apply e_no | apply d_no); (simp (disch := omega) [wrap64]; exact Red.rfl); decide)
             | ((with_reducible apply e_no'); (simp (disch := omega) [wrap64]; exact Red.rfl); decide)
             | ((with_reducible first | apply e_un | apply d_un | apply e_false); (simp (disch := omega) [wrap64]; exact Red.rfl))
             | ((with_reducible apply d_pure); rfl; (simp (disch := omega) [wrap64]; exact Red.rfl); exact Red.rfl; (focus (first | (simp; done) | omega | (simp; omega))))
             | ((with_reducible apply d_read); rfl; rfl; (simp (disch := omega) [wrap64]; exact Red.rfl); exact Red.rfl; (focus (first | (simp; done) | omega | (simp; omega))))
             | ((with_reducible apply d_read_); rfl; (simp (disch := omega) [wrap64]; exact Red.rfl); exact Red.rfl; (focus (first | (simp; done) | omega | (simp; omega))); (focus (simp [repast, pr, AOp.sem]; done)))
             | ((with_reducible apply d_new); rfl; (simp (disch := omega) [wrap64]; exact Red.rfl); exact Red.rfl; (focus (first | (simp; done) | omega | (simp; omega))); (focus (first | (simp; done) | (simp; omega))))
             | ((with_reducible first | apply d_do | apply d_set); rfl; rfl; rfl; (simp (disch := omega) [wrap64]; exact Red.rfl); exact Red.rfl; (focus (first | (simp; done) | omega | (simp; omega))); (focus (first | (simp; done) | (simp; omega))); (focus (first | (simp; done) | (simp; omega)))))
            (with_reducible apply e_dec); (simp; exact Red.rfl)
            · intro hk
              have hk4 : k = 0 ∨ k = 1 ∨ k = 2 ∨ k = 3 := by omega
              have fin : ∀ (G : Heap), ¬ limAt a1 a2 a3 a4 a5 a9 k → (i = l.length ↔ ∀ j, j < l.length → okAt l j) := by
                intro G hno
                refine ⟨fun h => by omega, fun hall => ?_⟩
                obtain ⟨_, hok, _⟩ := hall i hlt
                rw [hsi] at hok
                simp only [Str.ok] at hok
                rcases hk4 with rfl | rfl | rfl | rfl <;> simp only [limAt] at hno <;> omega
              have next : limAt a1 a2 a3 a4 a5 a9 k → ∀ j, j < k + 1 → limAt a1 a2 a3 a4 a5 a9 j := by
                intro hk5 j hj
                rcases Nat.lt_or_ge j k with h | h
                · exact hk2 j h
                · obtain rfl : j = k := by omega
                  exact hk5
              rcases hk4 with rfl | rfl | rfl | rfl
              all_goals
                repeat (first
                 | (with_reducible first | refine e_seq ?_ | refine e_ops ?_ | refine e_ret ?_ | refine e_exit ?_ | refine e_skip ?_ | refine e_block ?_ | refine e_scope ?_ | refine q_then ?_ | refine q_ret ?_ | refine q_exit ?_ | refine q_block ?_ | refine q_block_ret ?_ | refine q_block_exit ?_)
                 | ((with_reducible apply q_block_other); decide)
                 | (with_reducible first | refine q_again_ret ?_ | refine q_again_exit ?_ | refine q_scope ?_ | refine q_scope_ret ?_ | refine d_start ?_)
                 | ((with_reducible first | apply e_end | apply d_end); (simp; exact Red.rfl))
                 | ((with_reducible first | apply e_op | apply e_do); rfl; (simp (disch := omega) [wrap64]; exact Red.rfl); exact Red.rfl; (focus (first | (simp; done) | omega | (simp; omega))))
                 | ((with_reducible first | apply e_yes | apply d_yes | apply e_true); (simp (disch := omega) [wrap64]; exact Red.rfl))
                 | ((with_reducible first | apply e_no | apply d_no); (simp (disch := omega) [wrap64]; exact Red.rfl); decide)
                 | ((with_reducible apply e_no'); (simp (disch := omega) [wrap64]; exact Red.rfl); decide)
                 | ((with_reducible first | apply e_un | apply d_un | apply e_false); (simp (disch := omega) [wrap64]; exact Red.rfl))
                 | ((with_reducible apply d_pure); rfl; (simp (disch := omega) [wrap64]; exact Red.rfl); exact Red.rfl; (focus (first | (simp; done) | omega | (simp; omega))))
                 | ((with_reducible apply d_read); rfl; rfl; (simp (disch := omega) [wrap64]; exact Red.rfl); exact Red.rfl; (focus (first | (simp; done) | omega | (simp; omega))))
                 | ((with_reducible apply d_read_); rfl; (simp (disch := omega) [wrap64]; exact Red.rfl); exact Red.rfl; (focus (first | (simp; done) | omega | (simp; omega))); (focus (simp [repast, pr, AOp.sem]; done)))
                 | ((with_reducible apply d_new); rfl; (simp (disch := omega) [wrap64]; exact Red.rfl); exact Red.rfl; (focus (first | (simp; done) | omega | (simp; omega))); (focus (first | (simp; done) | (simp; omega))))
                 | ((with_reducible first | apply d_do | apply d_set); rfl; rfl; rfl; (simp (disch := omega) [wrap64]; exact Red.rfl); exact Red.rfl; (focus (first | (simp; done) | omega | (simp; omega))); (focus (first | (simp; done) | (simp; omega))); (focus (first | (simp; done) | (simp; omega)))))
                (with_reducible apply e_call); (simp; exact Red.rfl); exact c_fits _ _ _ _ _
                rintro _ _ ⟨rfl, rfl⟩
                repeat (first
                 | (with_reducible first | refine e_seq ?_ | refine e_ops ?_ | refine e_ret ?_ | refine e_exit ?_ | refine e_skip ?_ | refine e_block ?_ | refine e_scope ?_ | refine q_then ?_ | refine q_ret ?_ | refine q_exit ?_ | refine q_block ?_ | refine q_block_ret ?_ | refine q_block_exit ?_)
                 | ((with_reducible apply q_block_other); decide)
                 | (with_reducible first | refine q_again_ret ?_ | refine q_again_exit ?_ | refine q_scope ?_ | refine q_scope_ret ?_ | refine d_start ?_)
                 | ((with_reducible first | apply e_end | apply d_end); (simp; exact Red.rfl))
                 | ((with_reducible first | apply e_op | apply e_do); rfl; (simp (disch := omega) [wrap64]; exact Red.rfl); exact Red.rfl; (focus (first | (simp; done) | omega | (simp; omega))))
                 | ((with_reducible first | apply e_yes | apply d_yes | apply e_true); (simp (disch := omega) [wrap64]; exact Red.rfl))
                 | ((with_reducible first | apply e_no | apply d_no); (simp (disch := omega) [wrap64]; exact Red.rfl); decide)
                 | ((with_reducible apply e_no'); (simp (disch := omega) [wrap64]; exact Red.rfl); decide)
                 | ((with_reducible first | apply e_un | apply d_un | apply e_false); (simp (disch := omega) [wrap64]; exact Red.rfl))
                 | ((with_reducible apply d_pure); rfl; (simp (disch := omega) [wrap64]; exact Red.rfl); exact Red.rfl; (focus (first | (simp; done) | omega | (simp; omega))))
                 | ((with_reducible apply d_read); rfl; rfl; (simp (disch := omega) [wrap64]; exact Red.rfl); exact Red.rfl; (focus (first | (simp; done) | omega | (simp; omega))))
                 | ((with_reducible apply d_read_); rfl; (simp (disch := omega) [wrap64]; exact Red.rfl); exact Red.rfl; (focus (first | (simp; done) | omega | (simp; omega))); (focus (simp [repast, pr, AOp.sem]; done)))
                 | ((with_reducible apply d_new); rfl; (simp (disch := omega) [wrap64]; exact Red.rfl); exact Red.rfl; (focus (first | (simp; done) | omega | (simp; omega))); (focus (first | (simp; done) | (simp; omega))))
                 | ((with_reducible first | apply d_do | apply d_set); rfl; rfl; rfl; (simp (disch := omega) [wrap64]; exact Red.rfl); exact Red.rfl; (focus (first | (simp; done) | omega | (simp; omega))); (focus (first | (simp; done) | (simp; omega))); (focus (first | (simp; done) | (simp; omega)))))
                (with_reducible apply e_cond); (simp; exact Red.rfl)
                · intro hc
                  simp at hc
                  repeat (first
                   | (with_reducible first | refine e_seq ?_ | refine e_ops ?_ | refine e_ret ?_ | refine e_exit ?_ | refine e_skip ?_ | refine e_block ?_ | refine e_scope ?_ | refine q_then ?_ | refine q_ret ?_ | refine q_exit ?_ | refine q_block ?_ | refine q_block_ret ?_ | refine q_block_exit ?_)
                   | ((with_reducible apply q_block_other); decide)
                   | (with_reducible first | refine q_again_ret ?_ | refine q_again_exit ?_ | refine q_scope ?_ | refine q_scope_ret ?_ | refine d_start ?_)
                   | ((with_reducible first | apply e_end | apply d_end); (simp; exact Red.rfl))
                   | ((with_reducible first | apply e_op | apply e_do); rfl; (simp (disch := omega) [wrap64]; exact Red.rfl); exact Red.rfl; (focus (first | (simp; done) | omega | (simp; omega))))
                   | ((with_reducible first | apply e_yes | apply d_yes | apply e_true); (simp (disch := omega) [wrap64]; exact Red.rfl))
                   | ((with_reducible first | apply e_no | apply d_no); (simp (disch := omega) [wrap64]; exact Red.rfl); decide)
                   | ((with_reducible apply e_no'); (simp (disch := omega) [wrap64]; exact Red.rfl); decide)
                   | ((with_reducible first | apply e_un | apply d_un | apply e_false); (simp (disch := omega) [wrap64]; exact Red.rfl))
                   | ((with_reducible apply d_pure); rfl; (simp (disch := omega) [wrap64]; exact Red.rfl); exact Red.rfl; (focus (first | (simp; done) | omega | (simp; omega))))
                   | ((with_reducible apply d_read); rfl; rfl; (simp (disch := omega) [wrap64]; exact Red.rfl); exact Red.rfl; (focus (first | (simp; done) | omega | (simp; omega))))
                   | ((with_reducible apply d_read_); rfl; (simp (disch := omega) [wrap64]; exact Red.rfl); exact Red.rfl; (focus (first | (simp; done) | omega | (simp; omega))); (focus (simp [repast, pr, AOp.sem]; done)))
                   | ((with_reducible apply d_new); rfl; (simp (disch := omega) [wrap64]; exact Red.rfl); exact Red.rfl; (focus (first | (simp; done) | omega | (simp; omega))); (focus (first | (simp; done) | (simp; omega))))
                   | ((with_reducible first | apply d_do | apply d_set); rfl; rfl; rfl; (simp (disch := omega) [wrap64]; exact Red.rfl); exact Red.rfl; (focus (first | (simp; done) | omega | (simp; omega))); (focus (first | (simp; done) | (simp; omega))); (focus (first | (simp; done) | (simp; omega)))))
                  exact q_drop (.inr rfl) (by simp; exact Red.rfl) (by simp) ⟨rfl, i, rfl, hi1, fin H (by simp only [limAt]; omega)⟩
                · intro hc
                  simp at hc
                  repeat (first
                   | (with_reducible first | refine e_seq ?_ | refine e_ops ?_ | refine e_ret ?_ | refine e_exit ?_ | refine e_skip ?_ | refine e_block ?_ | refine e_scope ?_ | refine q_then ?_ | refine q_ret ?_ | refine q_exit ?_ | refine q_block ?_ | refine q_block_ret ?_ | refine q_block_exit ?_)
                   | ((with_reducible apply q_block_other); decide)
                   | (with_reducible first | refine q_again_ret ?_ | refine q_again_exit ?_ | refine q_scope ?_ | refine q_scope_ret ?_ | refine d_start ?_)
                   | ((with_reducible first | apply e_end | apply d_end); (simp; exact Red.rfl))
                   | ((with_reducible first | apply e_op | apply e_do); rfl; (simp (disch := omega) [wrap64]; exact Red.rfl); exact Red.rfl; (focus (first | (simp; done) | omega | (simp; omega))))
                   | ((with_reducible first | apply e_yes | apply d_yes | apply e_true); (simp (disch := omega) [wrap64]; exact Red.rfl))
                   | ((with_reducible first | apply e_no | apply d_no); (simp (disch := omega) [wrap64]; exact Red.rfl); decide)
                   | ((with_reducible apply e_no'); (simp (disch := omega) [wrap64]; exact Red.rfl); decide)
                   | ((with_reducible first | apply e_un | apply d_un | apply e_false); (simp (disch := omega) [wrap64]; exact Red.rfl))
                   | ((with_reducible apply d_pure); rfl; (simp (disch := omega) [wrap64]; exact Red.rfl); exact Red.rfl; (focus (first | (simp; done) | omega | (simp; omega))))
                   | ((with_reducible apply d_read); rfl; rfl; (simp (disch := omega) [wrap64]; exact Red.rfl); exact Red.rfl; (focus (first | (simp; done) | omega | (simp; omega))))
                   | ((with_reducible apply d_read_); rfl; (simp (disch := omega) [wrap64]; exact Red.rfl); exact Red.rfl; (focus (first | (simp; done) | omega | (simp; omega))); (focus (simp [repast, pr, AOp.sem]; done)))
                   | ((with_reducible apply d_new); rfl; (simp (disch := omega) [wrap64]; exact Red.rfl); exact Red.rfl; (focus (first | (simp; done) | omega | (simp; omega))); (focus (first | (simp; done) | (simp; omega))))
                   | ((with_reducible first | apply d_do | apply d_set); rfl; rfl; rfl; (simp (disch := omega) [wrap64]; exact Red.rfl); exact Red.rfl; (focus (first | (simp; done) | omega | (simp; omega))); (focus (first | (simp; done) | (simp; omega))); (focus (first | (simp; done) | (simp; omega)))))
                  exact q_again ⟨_, by omega, next (by simp only [limAt]; omega)⟩ (by dsimp only; omega) (.inr <| le_drop (by simp [hid]))
            · intro hk
              obtain rfl : k = 4 := by omega
              repeat (first
               | (with_reducible first | refine e_seq ?_ | refine e_ops ?_ | refine e_ret ?_ | refine e_exit ?_ | refine e_skip ?_ | refine e_block ?_ | refine e_scope ?_ | refine q_then ?_ | refine q_ret ?_ | refine q_exit ?_ | refine q_block ?_ | refine q_block_ret ?_ | refine q_block_exit ?_)
               | ((with_reducible apply q_block_other); decide)
               | (with_reducible first | refine q_again_ret ?_ | refine q_again_exit ?_ | refine q_scope ?_ | refine q_scope_ret ?_ | refine d_start ?_)
               | ((with_reducible first | apply e_end | apply d_end); (simp; exact Red.rfl))
               | ((with_reducible first | apply e_op | apply e_do); rfl; (simp (disch := omega) [wrap64]; exact Red.rfl); exact Red.rfl; (focus (first | (simp; done) | omega | (simp; omega))))
               | ((with_reducible first | apply e_yes | apply d_yes | apply e_true); (simp (disch := omega) [wrap64]; exact Red.rfl))
               | ((with_reducible first | apply e_no | apply d_no); (simp (disch := omega) [wrap64]; exact Red.rfl); decide)
               | ((with_reducible apply e_no'); (simp (disch := omega) [wrap64]; exact Red.rfl); decide)
               | ((with_reducible first | apply e_un | apply d_un | apply e_false); (simp (disch := omega) [wrap64]; exact Red.rfl))
               | ((with_reducible apply d_pure); rfl; (simp (disch := omega) [wrap64]; exact Red.rfl); exact Red.rfl; (focus (first | (simp; done) | omega | (simp; omega))))
               | ((with_reducible apply d_read); rfl; rfl; (simp (disch := omega) [wrap64]; exact Red.rfl); exact Red.rfl; (focus (first | (simp; done) | omega | (simp; omega))))
               | ((with_reducible apply d_read_); rfl; (simp (disch := omega) [wrap64]; exact Red.rfl); exact Red.rfl; (focus (first | (simp; done) | omega | (simp; omega))); (focus (simp [repast, pr, AOp.sem]; done)))
               | ((with_reducible apply d_new); rfl; (simp (disch := omega) [wrap64]; exact Red.rfl); exact Red.rfl; (focus (first | (simp; done) | omega | (simp; omega))); (focus (first | (simp; done) | (simp; omega))))
               | ((with_reducible first | apply d_do | apply d_set); rfl; rfl; rfl; (simp (disch := omega) [wrap64]; exact Red.rfl); exact Red.rfl; (focus (first | (simp; done) | omega | (simp; omega))); (focus (first | (simp; done) | (simp; omega))); (focus (first | (simp; done) | (simp; omega)))))
              refine q_again ⟨i + 1, by omega, fun j hj => ?_⟩ (by dsimp only; omega) (.inr <| le_id (by simp [hid]))
              rcases Nat.lt_or_ge j i with h | h
              · exact hi2 j h
              · obtain rfl : j = i := by omega
                have e0 := hk2 0 (by omega)
                have e1 := hk2 1 (by omega)
                have e2 := hk2 2 (by omega)
                have e3 := hk2 3 (by omega)
                simp only [limAt] at e0 e1 e2 e3
                refine ⟨hlt, ?_, ?_⟩
                · rw [hsi]
                  exact ⟨(hb.1 rfl).1, e0.2, e1, e2, e3.2⟩
                · rw [hsi]
                  exact (hb.1 rfl).2
    · intro hge
      repeat (first
       | (with_reducible first | refine e_seq ?_ | refine e_ops ?_ | refine e_ret ?_ | refine e_exit ?_ | refine e_skip ?_ | refine e_block ?_ | refine e_scope ?_ | refine q_then ?_ | refine q_ret ?_ | refine q_exit ?_ | refine q_block ?_ | refine q_block_ret ?_ | refine q_block_exit ?_)
       | ((with_reducible apply q_block_other); decide)
       | (with_reducible first | refine q_again_ret ?_ | refine q_again_exit ?_ | refine q_scope ?_ | refine q_scope_ret ?_ | refine d_start ?_)
       | ((with_reducible first | apply e_end | apply d_end); (simp; exact Red.rfl))
       | ((with_reducible first | apply e_op | apply e_do); rfl; (simp (disch := omega) [wrap64]; exact Red.rfl); exact Red.rfl; (focus (first | (simp; done) | omega | (simp; omega))))
       | ((with_reducible first | apply e_yes | apply d_yes | apply e_true); (simp (disch := omega) [wrap64]; exact Red.rfl))
       | ((with_reducible first | apply e_no | apply d_no); (simp (disch := omega) [wrap64]; exact Red.rfl); decide)
       | ((with_reducible apply e_no'); (simp (disch := omega) [wrap64]; exact Red.rfl); decide)
       | ((with_reducible first | apply e_un | apply d_un | apply e_false); (simp (disch := omega) [wrap64]; exact Red.rfl))
       | ((with_reducible apply d_pure); rfl; (simp (disch := omega) [wrap64]; exact Red.rfl); exact Red.rfl; (focus (first | (simp; done) | omega | (simp; omega))))
       | ((with_reducible apply d_read); rfl; rfl; (simp (disch := omega) [wrap64]; exact Red.rfl); exact Red.rfl; (focus (first | (simp; done) | omega | (simp; omega))))
       | ((with_reducible apply d_read_); rfl; (simp (disch := omega) [wrap64]; exact Red.rfl); exact Red.rfl; (focus (first | (simp; done) | omega | (simp; omega))); (focus (simp [repast, pr, AOp.sem]; done)))
       | ((with_reducible apply d_new); rfl; (simp (disch := omega) [wrap64]; exact Red.rfl); exact Red.rfl; (focus (first | (simp; done) | omega | (simp; omega))); (focus (first | (simp; done) | (simp; omega))))
       | ((with_reducible first | apply d_do | apply d_set); rfl; rfl; rfl; (simp (disch := omega) [wrap64]; exact Red.rfl); exact Red.rfl; (focus (first | (simp; done) | omega | (simp; omega))); (focus (first | (simp; done) | (simp; omega))); (focus (first | (simp; done) | (simp; omega)))))
      refine q_drop0 (.inr rfl) (by simp; exact Red.rfl) (by simp) ⟨rfl, i, rfl, hi1, ?_⟩
      have : i = l.length := by omega
      subst this
      simp; exact hi2
end Go.Proofs
