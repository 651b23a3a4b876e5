/- Contracts: a truth of a track. -/
import Derived.Test.YtaplmfpbjplagabC8
namespace Go.Proofs
open Go.Abs
attribute [local simp] AOp.den AOpd.ev lk cellsOf rd_new rd_new0 rd_zero rd_succ wr_new wr_new0 wr_zero wr_succ splice fillA binA scal sliceCells List.length_append argsT AV.sc scL AObj.sc resV getAll AR.get AOp.slots opdSlots opdsSlots partSlots eqAt
set_option linter.unusedSimpArgs false
set_option linter.unusedVariables false

def strAt (l : List Str) (j : Nat) : Str := l.getD j ⟨0, 0, 0, 0, 0, 0, 0, 0, 0⟩
theorem strAt_eq {l : List Str} {j : Nat} (h : j < l.length) : strAt l j = l[j] := by
  simp [strAt, List.getD_eq_getElem?_getD, List.getElem?_eq_getElem h]
def longF (us : List Int) (l : List Str) (j : Nat) : Int := someF (strAt l j).lLo (strAt l j).lHi (chooseF us (2 * j))
def fallF (us : List Int) (l : List Str) (j : Nat) : Int := someF (strAt l j).fLo (strAt l j).fHi (chooseF us (2 * j + 1))
def avL (f : Nat → Int) (n : Nat) : List AV := (List.range n).map fun j => .int .i64 (f j)
theorem avL_length (f : Nat → Int) (n : Nat) : (avL f n).length = n := by simp [avL]
theorem avL_succ (f : Nat → Int) (n : Nat) : avL f (n + 1) = avL f n ++ [.int .i64 (f n)] := by simp [avL, List.range_succ]
theorem avL_scal (f : Nat → Int) (n : Nat) : (avL f n).all scal = true := by simp [avL, scal]

theorem avL_take (f : Nat → Int) (n : Nat) : (avL f n).take n = avL f n := List.take_of_length_le (by simp [avL_length])
theorem avL_sc (f : Nat → Int) (n m : Nat) : scL m (avL f n) = true := by
  unfold avL
  induction List.range n with
  | nil => rfl
  | cons a r ih => simpa [scL, AV.sc] using ih
theorem avL_ren (ρ : Nat → Nat) (f : Nat → Int) (n : Nat) : renL ρ (avL f n) = avL f n := by
  unfold avL
  induction List.range n with
  | nil => rfl
  | cons a r ih => simpa [renL, AV.ren] using ih
/-- Two of the new objects stay, with numbers only. -/
theorem le_keep2 {H G : Heap} {t t' : List (Nat × AV)} (p q : Nat) {f g : Nat → Int} {n m : Nat} (hpq : p ≠ q) (hp : G[p]? = some (.cells (avL f n) true)) (hq : G[q]? = some (.cells (avL g m) true))
    (hv : ∀ x ∈ t', x.2.sc (H.length + 2) = true ∧ lk t x.1 = x.2.ren (sh H.length [p, q])) : Le H ⟨t, H ++ G⟩ ⟨t', H ++ [.cells (avL f n) true, .cells (avL g m) true]⟩ := by
  refine le_keep [p, q] rfl (by simp [hpq]) ?_ hv
  intro k r o h1 h2
  rcases k with _ | _ | k
  · simp at h1 h2; subst h1; subst h2
    exact .inr ⟨by simp [AObj.sc, avL_sc], by simp [AObj.ren, avL_ren, hp]⟩
  · simp at h1 h2; subst h1; subst h2
    exact .inr ⟨by simp [AObj.sc, avL_sc], by simp [AObj.ren, avL_ren, hq]⟩
  · simp at h1

theorem at_new0 (H G : Heap) : (H ++ G)[H.length]? = G[0]? := by simp [List.getElem?_append_right]
theorem at_new (H G : Heap) (k : Nat) : (H ++ G)[H.length + k]? = G[k]? := by simp [List.getElem?_append_right]
theorem set_new0 (H G : Heap) (o : AObj) : (H ++ G).set H.length o = H ++ G.set 0 o := by simp [List.set_append]
theorem set_new (H G : Heap) (k : Nat) (o : AObj) : (H ++ G).set (H.length + k) o = H ++ G.set k o := by simp [List.set_append]

theorem c_truth (H : Heap) (l : List Str) (us : List Int) (id off bid boff : Nat) (ex bex : Bool) (hs : rd H id off (l.length * 9) = some (l.flatMap Str.av)) (hv : validL l)
    (hb : rd H bid boff us.length = some (us.map (.int .u32))) (hu : ∀ u ∈ us, 0 ≤ u ∧ u ≤ 4294967295) (hn : (us.length : Int) ≤ 9223372036854775807) :
    ACalls Try.prog F.law01_truth [.agg [.slice id off l.length 9 ex], .slice bid boff us.length 1 bex] H
      (fun v h' => v = .tuple [.slice H.length 0 l.length 1 false, .slice (H.length + 1) 0 l.length 1 false] ∧ h' = H ++ [.cells (avL (longF us l) l.length) true, .cells (avL (fallF us l) l.length) true]) := by
  refine acalls_of ok_law01_truth rfl fun hcl => ?_
  unfold ac_law01_truth
  simp only [argsT, Nat.zero_add, Nat.reduceAdd]
  have hid := rd_lt hs
  have hbid := rd_lt hb
  repeat (first
   | (with_reducible first | refine e_seq ?_ | refine e_ops ?_ | refine e_ret ?_ | refine e_exit ?_ | refine e_skip ?_ | refine e_block ?_ | refine e_scope ?_ | refine q_then ?_ | refine q_ret ?_ | refine q_exit ?_ | refine q_block ?_ | refine q_block_ret ?_ | refine q_block_exit ?_)
   | ((with_reducible apply q_block_other); decide)
   | (with_reducible first | refine q_again_ret ?_ | refine q_again_exit ?_ | refine q_scope ?_ | refine q_scope_ret ?_ | refine d_start ?_)
   | ((with_reducible first | apply e_end | apply d_end); (simp; exact Red.rfl))
   | ((with_reducible first | apply e_op | apply e_do); rfl; (simp (disch := omega) [wrap64]; exact Red.rfl); exact Red.rfl; (focus (first | (simp; done) | omega | (simp; omega))))
   | ((with_reducible first | apply e_yes | apply d_yes | apply e_true); (simp (disch := omega) [wrap64]; exact Red.rfl))
   | ((with_reducible first | apply e_no | apply d_no); (simp (disch := omega) [wrap64]; exact Red.rfl); decide)
   | ((with_reducible apply e_no'); (simp (disch := omega) [wrap64]; exact Red.rfl); decide)
   | ((with_reducible first | apply e_un | apply d_un | apply e_false); (simp (disch := omega) [wrap64]; exact Red.rfl))
   | ((with_reducible apply d_pure); rfl; (simp (disch := omega) [wrap64]; exact Red.rfl); exact Red.rfl; (focus (first | (simp; done) | omega | (simp; omega))))
   | ((with_reducible apply d_read); rfl; rfl; (simp (disch := omega) [wrap64]; exact Red.rfl); exact Red.rfl; (focus (first | (simp; done) | omega | (simp; omega))))
   | ((with_reducible apply d_read_); rfl; (simp (disch := omega) [wrap64]; exact Red.rfl); exact Red.rfl; (focus (first | (simp; done) | omega | (simp; omega))); (focus (simp [repast, pr, AOp.sem]; done)))
   | ((with_reducible apply d_new); rfl; (simp (disch := omega) [wrap64]; exact Red.rfl); exact Red.rfl; (focus (first | (simp; done) | omega | (simp; omega))); (focus (first | (simp; done) | (simp; omega))))
   | ((with_reducible first | apply d_do | apply d_set); rfl; rfl; rfl; (simp (disch := omega) [wrap64]; exact Red.rfl); exact Red.rfl; (focus (first | (simp; done) | omega | (simp; omega))); (focus (first | (simp; done) | (simp; omega))); (focus (first | (simp; done) | (simp; omega)))))
  refine e_loop (ι := { i : Nat // i ≤ l.length })
    (fun i => match i.1 with
      | 0 => [(1, .slice bid boff us.length 1 bex), (4, .nilslice), (5, .nilslice), (9, .slice id off l.length 9 ex), (10, .int .i64 l.length), (11, .int .i64 0)]
      | n + 1 => [(1, .slice bid boff us.length 1 bex), (4, .slice H.length 0 (n + 1) 1 false), (5, .slice (H.length + 1) 0 (n + 1) 1 false), (9, .slice id off l.length 9 ex), (10, .int .i64 l.length), (11, .int .i64 ((n + 1 : Nat) : Int))])
    (fun i => match i.1 with
      | 0 => H
      | n + 1 => H ++ [.cells (avL (longF us l) (n + 1)) true, .cells (avL (fallF us l) (n + 1)) true]) (fun i => l.length - i.1) ⟨0, by simp⟩ ?_ ?_
  · exact .inr <| le_drop (by simp [hid, hbid])
  · rintro ⟨i, hi⟩
    dsimp only
    cases i with
    | zero =>
      have hlt : 0 < l.length := by have := hv.1; omega
      have hx := rd_row Str.av_length hs hlt
      have ho := (hv.2 0 hlt).2.1
      have hst := strAt_eq hlt
      generalize hsi : l[0] = s at hx ho hst
      obtain ⟨a1, a2, a3, a4, a5, a6, a7, a8, a9⟩ := s
      simp only [Str.av, Nat.zero_mul, Nat.add_zero] at hx
      simp only [Str.ok] at ho
      dsimp only
      repeat (first
       | (with_reducible first | refine e_seq ?_ | refine e_ops ?_ | refine e_ret ?_ | refine e_exit ?_ | refine e_skip ?_ | refine e_block ?_ | refine e_scope ?_ | refine q_then ?_ | refine q_ret ?_ | refine q_exit ?_ | refine q_block ?_ | refine q_block_ret ?_ | refine q_block_exit ?_)
       | ((with_reducible apply q_block_other); decide)
       | (with_reducible first | refine q_again_ret ?_ | refine q_again_exit ?_ | refine q_scope ?_ | refine q_scope_ret ?_ | refine d_start ?_)
       | ((with_reducible first | apply e_end | apply d_end); (simp; exact Red.rfl))
       | ((with_reducible first | apply e_op | apply e_do); rfl; (simp (disch := omega) [wrap64, rd_old _ hid, hx, hlt]; exact Red.rfl); exact Red.rfl; (focus (first | (simp; done) | omega | (simp; omega))))
       | ((with_reducible first | apply e_yes | apply d_yes | apply e_true); (simp (disch := omega) [wrap64, rd_old _ hid, hx, hlt]; exact Red.rfl))
       | ((with_reducible first | apply e_no | apply d_no); (simp (disch := omega) [wrap64, rd_old _ hid, hx, hlt]; exact Red.rfl); decide)
       | ((with_reducible apply e_no'); (simp (disch := omega) [wrap64, rd_old _ hid, hx, hlt]; exact Red.rfl); decide)
       | ((with_reducible first | apply e_un | apply d_un | apply e_false); (simp (disch := omega) [wrap64, rd_old _ hid, hx, hlt]; exact Red.rfl))
       | ((with_reducible apply d_pure); rfl; (simp (disch := omega) [wrap64, rd_old _ hid, hx, hlt]; exact Red.rfl); exact Red.rfl; (focus (first | (simp; done) | omega | (simp; omega))))
       | ((with_reducible apply d_read); rfl; rfl; (simp (disch := omega) [wrap64, rd_old _ hid, hx, hlt]; exact Red.rfl); exact Red.rfl; (focus (first | (simp; done) | omega | (simp; omega))))
       | ((with_reducible apply d_read_); rfl; (simp (disch := omega) [wrap64, rd_old _ hid, hx, hlt]; exact Red.rfl); exact Red.rfl; (focus (first | (simp; done) | omega | (simp; omega))); (focus (simp [repast, pr, AOp.sem]; done)))
       | ((with_reducible apply d_new); rfl; (simp (disch := omega) [wrap64, rd_old _ hid, hx, hlt]; exact Red.rfl); exact Red.rfl; (focus (first | (simp; done) | omega | (simp; omega))); (focus (first | (simp; done) | (simp; omega))))
       | ((with_reducible first | apply d_do | apply d_set); rfl; rfl; rfl; (simp (disch := omega) [wrap64, rd_old _ hid, hx, hlt]; exact Red.rfl); exact Red.rfl; (focus (first | (simp; done) | omega | (simp; omega))); (focus (first | (simp; done) | (simp; omega))); (focus (first | (simp; done) | (simp; omega)))))
      (with_reducible apply d_call); (simp; exact Red.rfl); exact c_choose _ us bid boff bex _ (by rw [rd_old _ hbid]; exact hb) hu (by omega) (by omega) hn; (focus (first | (simp; done) | (simp; omega)))
      repeat (first
       | (with_reducible first | refine e_seq ?_ | refine e_ops ?_ | refine e_ret ?_ | refine e_exit ?_ | refine e_skip ?_ | refine e_block ?_ | refine e_scope ?_ | refine q_then ?_ | refine q_ret ?_ | refine q_exit ?_ | refine q_block ?_ | refine q_block_ret ?_ | refine q_block_exit ?_)
       | ((with_reducible apply q_block_other); decide)
       | (with_reducible first | refine q_again_ret ?_ | refine q_again_exit ?_ | refine q_scope ?_ | refine q_scope_ret ?_ | refine d_start ?_)
       | ((with_reducible first | apply e_end | apply d_end); (simp; exact Red.rfl))
       | ((with_reducible first | apply e_op | apply e_do); rfl; (simp (disch := omega) [wrap64]; exact Red.rfl); exact Red.rfl; (focus (first | (simp; done) | omega | (simp; omega))))
       | ((with_reducible first | apply e_yes | apply d_yes | apply e_true); (simp (disch := omega) [wrap64]; exact Red.rfl))
       | ((with_reducible first | apply e_no | apply d_no); (simp (disch := omega) [wrap64]; exact Red.rfl); decide)
       | ((with_reducible apply e_no'); (simp (disch := omega) [wrap64]; exact Red.rfl); decide)
       | ((with_reducible first | apply e_un | apply d_un | apply e_false); (simp (disch := omega) [wrap64]; exact Red.rfl))
       | ((with_reducible apply d_pure); rfl; (simp (disch := omega) [wrap64]; exact Red.rfl); exact Red.rfl; (focus (first | (simp; done) | omega | (simp; omega))))
       | ((with_reducible apply d_read); rfl; rfl; (simp (disch := omega) [wrap64]; exact Red.rfl); exact Red.rfl; (focus (first | (simp; done) | omega | (simp; omega))))
       | ((with_reducible apply d_read_); rfl; (simp (disch := omega) [wrap64]; exact Red.rfl); exact Red.rfl; (focus (first | (simp; done) | omega | (simp; omega))); (focus (simp [repast, pr, AOp.sem]; done)))
       | ((with_reducible apply d_new); rfl; (simp (disch := omega) [wrap64]; exact Red.rfl); exact Red.rfl; (focus (first | (simp; done) | omega | (simp; omega))); (focus (first | (simp; done) | (simp; omega))))
       | ((with_reducible first | apply d_do | apply d_set); rfl; rfl; rfl; (simp (disch := omega) [wrap64]; exact Red.rfl); exact Red.rfl; (focus (first | (simp; done) | omega | (simp; omega))); (focus (first | (simp; done) | (simp; omega))); (focus (first | (simp; done) | (simp; omega)))))
      (with_reducible apply d_call); (simp; exact Red.rfl); exact c_some _ _ _ _ (by omega) (by omega) (by omega) (chooseF_ge hu _).1 (chooseF_ge hu _).2; (focus (first | (simp; done) | (simp; omega)))
      repeat (first
       | (with_reducible first | refine e_seq ?_ | refine e_ops ?_ | refine e_ret ?_ | refine e_exit ?_ | refine e_skip ?_ | refine e_block ?_ | refine e_scope ?_ | refine q_then ?_ | refine q_ret ?_ | refine q_exit ?_ | refine q_block ?_ | refine q_block_ret ?_ | refine q_block_exit ?_)
       | ((with_reducible apply q_block_other); decide)
       | (with_reducible first | refine q_again_ret ?_ | refine q_again_exit ?_ | refine q_scope ?_ | refine q_scope_ret ?_ | refine d_start ?_)
       | ((with_reducible first | apply e_end | apply d_end); (simp; exact Red.rfl))
       | ((with_reducible first | apply e_op | apply e_do); rfl; (simp (disch := omega) [wrap64]; exact Red.rfl); exact Red.rfl; (focus (first | (simp; done) | omega | (simp; omega))))
       | ((with_reducible first | apply e_yes | apply d_yes | apply e_true); (simp (disch := omega) [wrap64]; exact Red.rfl))
       | ((with_reducible first | apply e_no | apply d_no); (simp (disch := omega) [wrap64]; exact Red.rfl); decide)
       | ((with_reducible apply e_no'); (simp (disch := omega) [wrap64]; exact Red.rfl); decide)
       | ((with_reducible first | apply e_un | apply d_un | apply e_false); (simp (disch := omega) [wrap64]; exact Red.rfl))
       | ((with_reducible apply d_pure); rfl; (simp (disch := omega) [wrap64]; exact Red.rfl); exact Red.rfl; (focus (first | (simp; done) | omega | (simp; omega))))
       | ((with_reducible apply d_read); rfl; rfl; (simp (disch := omega) [wrap64]; exact Red.rfl); exact Red.rfl; (focus (first | (simp; done) | omega | (simp; omega))))
       | ((with_reducible apply d_read_); rfl; (simp (disch := omega) [wrap64]; exact Red.rfl); exact Red.rfl; (focus (first | (simp; done) | omega | (simp; omega))); (focus (simp [repast, pr, AOp.sem]; done)))
       | ((with_reducible apply d_new); rfl; (simp (disch := omega) [wrap64]; exact Red.rfl); exact Red.rfl; (focus (first | (simp; done) | omega | (simp; omega))); (focus (first | (simp; done) | (simp; omega))))
       | ((with_reducible first | apply d_do | apply d_set); rfl; rfl; rfl; (simp (disch := omega) [wrap64]; exact Red.rfl); exact Red.rfl; (focus (first | (simp; done) | omega | (simp; omega))); (focus (first | (simp; done) | (simp; omega))); (focus (first | (simp; done) | (simp; omega)))))
      (with_reducible apply d_call); (simp; exact Red.rfl); exact c_choose _ us bid boff bex _ (by rw [rd_old _ hbid]; exact hb) hu (by omega) (by omega) hn; (focus (first | (simp; done) | (simp; omega)))
      repeat (first
       | (with_reducible first | refine e_seq ?_ | refine e_ops ?_ | refine e_ret ?_ | refine e_exit ?_ | refine e_skip ?_ | refine e_block ?_ | refine e_scope ?_ | refine q_then ?_ | refine q_ret ?_ | refine q_exit ?_ | refine q_block ?_ | refine q_block_ret ?_ | refine q_block_exit ?_)
       | ((with_reducible apply q_block_other); decide)
       | (with_reducible first | refine q_again_ret ?_ | refine q_again_exit ?_ | refine q_scope ?_ | refine q_scope_ret ?_ | refine d_start ?_)
       | ((with_reducible first | apply e_end | apply d_end); (simp; exact Red.rfl))
       | ((with_reducible first | apply e_op | apply e_do); rfl; (simp (disch := omega) [wrap64]; exact Red.rfl); exact Red.rfl; (focus (first | (simp; done) | omega | (simp; omega))))
       | ((with_reducible first | apply e_yes | apply d_yes | apply e_true); (simp (disch := omega) [wrap64]; exact Red.rfl))
       | ((with_reducible first | apply e_no | apply d_no); (simp (disch := omega) [wrap64]; exact Red.rfl); decide)
       | ((with_reducible apply e_no'); (simp (disch := omega) [wrap64]; exact Red.rfl); decide)
       | ((with_reducible first | apply e_un | apply d_un | apply e_false); (simp (disch := omega) [wrap64]; exact Red.rfl))
       | ((with_reducible apply d_pure); rfl; (simp (disch := omega) [wrap64]; exact Red.rfl); exact Red.rfl; (focus (first | (simp; done) | omega | (simp; omega))))
       | ((with_reducible apply d_read); rfl; rfl; (simp (disch := omega) [wrap64]; exact Red.rfl); exact Red.rfl; (focus (first | (simp; done) | omega | (simp; omega))))
       | ((with_reducible apply d_read_); rfl; (simp (disch := omega) [wrap64]; exact Red.rfl); exact Red.rfl; (focus (first | (simp; done) | omega | (simp; omega))); (focus (simp [repast, pr, AOp.sem]; done)))
       | ((with_reducible apply d_new); rfl; (simp (disch := omega) [wrap64]; exact Red.rfl); exact Red.rfl; (focus (first | (simp; done) | omega | (simp; omega))); (focus (first | (simp; done) | (simp; omega))))
       | ((with_reducible first | apply d_do | apply d_set); rfl; rfl; rfl; (simp (disch := omega) [wrap64]; exact Red.rfl); exact Red.rfl; (focus (first | (simp; done) | omega | (simp; omega))); (focus (first | (simp; done) | (simp; omega))); (focus (first | (simp; done) | (simp; omega)))))
      (with_reducible apply d_call); (simp; exact Red.rfl); exact c_some _ _ _ _ (by omega) (by omega) (by omega) (chooseF_ge hu _).1 (chooseF_ge hu _).2; (focus (first | (simp; done) | (simp; omega)))
      repeat (first
       | (with_reducible first | refine e_seq ?_ | refine e_ops ?_ | refine e_ret ?_ | refine e_exit ?_ | refine e_skip ?_ | refine e_block ?_ | refine e_scope ?_ | refine q_then ?_ | refine q_ret ?_ | refine q_exit ?_ | refine q_block ?_ | refine q_block_ret ?_ | refine q_block_exit ?_)
       | ((with_reducible apply q_block_other); decide)
       | (with_reducible first | refine q_again_ret ?_ | refine q_again_exit ?_ | refine q_scope ?_ | refine q_scope_ret ?_ | refine d_start ?_)
       | ((with_reducible first | apply e_end | apply d_end); (simp; exact Red.rfl))
       | ((with_reducible first | apply e_op | apply e_do); rfl; (simp (disch := omega) [wrap64]; exact Red.rfl); exact Red.rfl; (focus (first | (simp; done) | omega | (simp; omega))))
       | ((with_reducible first | apply e_yes | apply d_yes | apply e_true); (simp (disch := omega) [wrap64]; exact Red.rfl))
       | ((with_reducible first | apply e_no | apply d_no); (simp (disch := omega) [wrap64]; exact Red.rfl); decide)
       | ((with_reducible apply e_no'); (simp (disch := omega) [wrap64]; exact Red.rfl); decide)
       | ((with_reducible first | apply e_un | apply d_un | apply e_false); (simp (disch := omega) [wrap64]; exact Red.rfl))
       | ((with_reducible apply d_pure); rfl; (simp (disch := omega) [wrap64]; exact Red.rfl); exact Red.rfl; (focus (first | (simp; done) | omega | (simp; omega))))
       | ((with_reducible apply d_read); rfl; rfl; (simp (disch := omega) [wrap64]; exact Red.rfl); exact Red.rfl; (focus (first | (simp; done) | omega | (simp; omega))))
       | ((with_reducible apply d_read_); rfl; (simp (disch := omega) [wrap64]; exact Red.rfl); exact Red.rfl; (focus (first | (simp; done) | omega | (simp; omega))); (focus (simp [repast, pr, AOp.sem]; done)))
       | ((with_reducible apply d_new); rfl; (simp (disch := omega) [wrap64]; exact Red.rfl); exact Red.rfl; (focus (first | (simp; done) | omega | (simp; omega))); (focus (first | (simp; done) | (simp; omega))))
       | ((with_reducible first | apply d_do | apply d_set); rfl; rfl; rfl; (simp (disch := omega) [wrap64]; exact Red.rfl); exact Red.rfl; (focus (first | (simp; done) | omega | (simp; omega))); (focus (first | (simp; done) | (simp; omega))); (focus (first | (simp; done) | (simp; omega)))))
      have e1 : someF a2 a3 (chooseF us 0) = longF us l 0 := by simp [longF, hst]
      have e2 : someF a4 a5 (chooseF us 1) = fallF us l 0 := by simp [fallF, hst]
      rw [e1, e2]
      refine q_again ⟨1, by omega⟩ (by dsimp only; omega) (.inr ?_)
      exact le_keep2 (f := longF us l) (g := fallF us l) (n := 1) (m := 1) 2 4 (by decide) rfl rfl (by simp [sh, hid, hbid, AV.ren]; omega)
    | succ n =>
      dsimp only
      repeat (first
       | (with_reducible first | refine e_seq ?_ | refine e_ops ?_ | refine e_ret ?_ | refine e_exit ?_ | refine e_skip ?_ | refine e_block ?_ | refine e_scope ?_ | refine q_then ?_ | refine q_ret ?_ | refine q_exit ?_ | refine q_block ?_ | refine q_block_ret ?_ | refine q_block_exit ?_)
       | ((with_reducible apply q_block_other); decide)
       | (with_reducible first | refine q_again_ret ?_ | refine q_again_exit ?_ | refine q_scope ?_ | refine q_scope_ret ?_ | refine d_start ?_)
       | ((with_reducible first | apply e_end | apply d_end); (simp; exact Red.rfl))
       | ((with_reducible first | apply e_op | apply e_do); rfl; (simp (disch := omega) [wrap64]; exact Red.rfl); exact Red.rfl; (focus (first | (simp; done) | omega | (simp; omega))))
       | ((with_reducible first | apply e_yes | apply d_yes | apply e_true); (simp (disch := omega) [wrap64]; exact Red.rfl))
       | ((with_reducible first | apply e_no | apply d_no); (simp (disch := omega) [wrap64]; exact Red.rfl); decide)
       | ((with_reducible apply e_no'); (simp (disch := omega) [wrap64]; exact Red.rfl); decide)
       | ((with_reducible first | apply e_un | apply d_un | apply e_false); (simp (disch := omega) [wrap64]; exact Red.rfl))
       | ((with_reducible apply d_pure); rfl; (simp (disch := omega) [wrap64]; exact Red.rfl); exact Red.rfl; (focus (first | (simp; done) | omega | (simp; omega))))
       | ((with_reducible apply d_read); rfl; rfl; (simp (disch := omega) [wrap64]; exact Red.rfl); exact Red.rfl; (focus (first | (simp; done) | omega | (simp; omega))))
       | ((with_reducible apply d_read_); rfl; (simp (disch := omega) [wrap64]; exact Red.rfl); exact Red.rfl; (focus (first | (simp; done) | omega | (simp; omega))); (focus (simp [repast, pr, AOp.sem]; done)))
       | ((with_reducible apply d_new); rfl; (simp (disch := omega) [wrap64]; exact Red.rfl); exact Red.rfl; (focus (first | (simp; done) | omega | (simp; omega))); (focus (first | (simp; done) | (simp; omega))))
       | ((with_reducible first | apply d_do | apply d_set); rfl; rfl; rfl; (simp (disch := omega) [wrap64]; exact Red.rfl); exact Red.rfl; (focus (first | (simp; done) | omega | (simp; omega))); (focus (first | (simp; done) | (simp; omega))); (focus (first | (simp; done) | (simp; omega)))))
      (with_reducible apply e_dec); (simp; exact Red.rfl)
      · intro hlt
        have hlt : n + 1 < l.length := by omega
        have h12 := hv.1.2
        have hx := rd_row Str.av_length hs hlt
        have ho := (hv.2 (n + 1) hlt).2.1
        have hst := strAt_eq hlt
        generalize hsi : l[n + 1] = s at hx ho hst
        obtain ⟨a1, a2, a3, a4, a5, a6, a7, a8, a9⟩ := s
        simp only [Str.av] at hx
        simp only [Str.ok] at ho
        repeat (first
         | (with_reducible first | refine e_seq ?_ | refine e_ops ?_ | refine e_ret ?_ | refine e_exit ?_ | refine e_skip ?_ | refine e_block ?_ | refine e_scope ?_ | refine q_then ?_ | refine q_ret ?_ | refine q_exit ?_ | refine q_block ?_ | refine q_block_ret ?_ | refine q_block_exit ?_)
         | ((with_reducible apply q_block_other); decide)
         | (with_reducible first | refine q_again_ret ?_ | refine q_again_exit ?_ | refine q_scope ?_ | refine q_scope_ret ?_ | refine d_start ?_)
         | ((with_reducible first | apply e_end | apply d_end); (simp; exact Red.rfl))
         | ((with_reducible first | apply e_op | apply e_do); rfl; (simp (disch := omega) [wrap64, rd_old _ hid, hx, hlt, avL_length, avL_take, avL_scal, at_new0, at_new, set_new0, set_new]; exact Red.rfl); exact Red.rfl; (focus (first | (simp; done) | omega | (simp; omega))))
         | ((with_reducible first | apply e_yes | apply d_yes | apply e_true); (simp (disch := omega) [wrap64, rd_old _ hid, hx, hlt, avL_length, avL_take, avL_scal, at_new0, at_new, set_new0, set_new]; exact Red.rfl))
         | ((with_reducible first | apply e_no | apply d_no); (simp (disch := omega) [wrap64, rd_old _ hid, hx, hlt, avL_length, avL_take, avL_scal, at_new0, at_new, set_new0, set_new]; exact Red.rfl); decide)
         | ((with_reducible apply e_no'); (simp (disch := omega) [wrap64, rd_old _ hid, hx, hlt, avL_length, avL_take, avL_scal, at_new0, at_new, set_new0, set_new]; exact Red.rfl); decide)
         | ((with_reducible first | apply e_un | apply d_un | apply e_false); (simp (disch := omega) [wrap64, rd_old _ hid, hx, hlt, avL_length, avL_take, avL_scal, at_new0, at_new, set_new0, set_new]; exact Red.rfl))
         | ((with_reducible apply d_pure); rfl; (simp (disch := omega) [wrap64, rd_old _ hid, hx, hlt, avL_length, avL_take, avL_scal, at_new0, at_new, set_new0, set_new]; exact Red.rfl); exact Red.rfl; (focus (first | (simp; done) | omega | (simp; omega))))
         | ((with_reducible apply d_read); rfl; rfl; (simp (disch := omega) [wrap64, rd_old _ hid, hx, hlt, avL_length, avL_take, avL_scal, at_new0, at_new, set_new0, set_new]; exact Red.rfl); exact Red.rfl; (focus (first | (simp; done) | omega | (simp; omega))))
         | ((with_reducible apply d_read_); rfl; (simp (disch := omega) [wrap64, rd_old _ hid, hx, hlt, avL_length, avL_take, avL_scal, at_new0, at_new, set_new0, set_new]; exact Red.rfl); exact Red.rfl; (focus (first | (simp; done) | omega | (simp; omega))); (focus (simp [repast, pr, AOp.sem]; done)))
         | ((with_reducible apply d_new); rfl; (simp (disch := omega) [wrap64, rd_old _ hid, hx, hlt, avL_length, avL_take, avL_scal, at_new0, at_new, set_new0, set_new]; exact Red.rfl); exact Red.rfl; (focus (first | (simp; done) | omega | (simp; omega))); (focus (first | (simp; done) | (simp; omega))))
         | ((with_reducible first | apply d_do | apply d_set); rfl; rfl; rfl; (simp (disch := omega) [wrap64, rd_old _ hid, hx, hlt, avL_length, avL_take, avL_scal, at_new0, at_new, set_new0, set_new]; exact Red.rfl); exact Red.rfl; (focus (first | (simp; done) | omega | (simp; omega))); (focus (first | (simp; done) | (simp; omega))); (focus (first | (simp; done) | (simp; omega)))))
        (with_reducible apply d_call); (simp; exact Red.rfl); exact c_choose _ us bid boff bex _ (by rw [rd_old _ hbid]; exact hb) hu (by omega) (by omega) hn; (focus (first | (simp; done) | (simp; omega)))
        repeat (first
         | (with_reducible first | refine e_seq ?_ | refine e_ops ?_ | refine e_ret ?_ | refine e_exit ?_ | refine e_skip ?_ | refine e_block ?_ | refine e_scope ?_ | refine q_then ?_ | refine q_ret ?_ | refine q_exit ?_ | refine q_block ?_ | refine q_block_ret ?_ | refine q_block_exit ?_)
         | ((with_reducible apply q_block_other); decide)
         | (with_reducible first | refine q_again_ret ?_ | refine q_again_exit ?_ | refine q_scope ?_ | refine q_scope_ret ?_ | refine d_start ?_)
         | ((with_reducible first | apply e_end | apply d_end); (simp; exact Red.rfl))
         | ((with_reducible first | apply e_op | apply e_do); rfl; (simp (disch := omega) [wrap64, avL_length, avL_take, avL_scal, at_new0, at_new, set_new0, set_new]; exact Red.rfl); exact Red.rfl; (focus (first | (simp; done) | omega | (simp; omega))))
         | ((with_reducible first | apply e_yes | apply d_yes | apply e_true); (simp (disch := omega) [wrap64, avL_length, avL_take, avL_scal, at_new0, at_new, set_new0, set_new]; exact Red.rfl))
         | ((with_reducible first | apply e_no | apply d_no); (simp (disch := omega) [wrap64, avL_length, avL_take, avL_scal, at_new0, at_new, set_new0, set_new]; exact Red.rfl); decide)
         | ((with_reducible apply e_no'); (simp (disch := omega) [wrap64, avL_length, avL_take, avL_scal, at_new0, at_new, set_new0, set_new]; exact Red.rfl); decide)
         | ((with_reducible first | apply e_un | apply d_un | apply e_false); (simp (disch := omega) [wrap64, avL_length, avL_take, avL_scal, at_new0, at_new, set_new0, set_new]; exact Red.rfl))
         | ((with_reducible apply d_pure); rfl; (simp (disch := omega) [wrap64, avL_length, avL_take, avL_scal, at_new0, at_new, set_new0, set_new]; exact Red.rfl); exact Red.rfl; (focus (first | (simp; done) | omega | (simp; omega))))
         | ((with_reducible apply d_read); rfl; rfl; (simp (disch := omega) [wrap64, avL_length, avL_take, avL_scal, at_new0, at_new, set_new0, set_new]; exact Red.rfl); exact Red.rfl; (focus (first | (simp; done) | omega | (simp; omega))))
         | ((with_reducible apply d_read_); rfl; (simp (disch := omega) [wrap64, avL_length, avL_take, avL_scal, at_new0, at_new, set_new0, set_new]; exact Red.rfl); exact Red.rfl; (focus (first | (simp; done) | omega | (simp; omega))); (focus (simp [repast, pr, AOp.sem]; done)))
         | ((with_reducible apply d_new); rfl; (simp (disch := omega) [wrap64, avL_length, avL_take, avL_scal, at_new0, at_new, set_new0, set_new]; exact Red.rfl); exact Red.rfl; (focus (first | (simp; done) | omega | (simp; omega))); (focus (first | (simp; done) | (simp; omega))))
         | ((with_reducible first | apply d_do | apply d_set); rfl; rfl; rfl; (simp (disch := omega) [wrap64, avL_length, avL_take, avL_scal, at_new0, at_new, set_new0, set_new]; exact Red.rfl); exact Red.rfl; (focus (first | (simp; done) | omega | (simp; omega))); (focus (first | (simp; done) | (simp; omega))); (focus (first | (simp; done) | (simp; omega)))))
        (with_reducible apply d_call); (simp; exact Red.rfl); exact c_some _ _ _ _ (by omega) (by omega) (by omega) (chooseF_ge hu _).1 (chooseF_ge hu _).2; (focus (first | (simp; done) | (simp; omega)))
        repeat (first
         | (with_reducible first | refine e_seq ?_ | refine e_ops ?_ | refine e_ret ?_ | refine e_exit ?_ | refine e_skip ?_ | refine e_block ?_ | refine e_scope ?_ | refine q_then ?_ | refine q_ret ?_ | refine q_exit ?_ | refine q_block ?_ | refine q_block_ret ?_ | refine q_block_exit ?_)
         | ((with_reducible apply q_block_other); decide)
         | (with_reducible first | refine q_again_ret ?_ | refine q_again_exit ?_ | refine q_scope ?_ | refine q_scope_ret ?_ | refine d_start ?_)
         | ((with_reducible first | apply e_end | apply d_end); (simp; exact Red.rfl))
         | ((with_reducible first | apply e_op | apply e_do); rfl; (simp (disch := omega) [wrap64, avL_length, avL_take, avL_scal, at_new0, at_new, set_new0, set_new]; exact Red.rfl); exact Red.rfl; (focus (first | (simp; done) | omega | (simp; omega))))
         | ((with_reducible first | apply e_yes | apply d_yes | apply e_true); (simp (disch := omega) [wrap64, avL_length, avL_take, avL_scal, at_new0, at_new, set_new0, set_new]; exact Red.rfl))
         | ((with_reducible first | apply e_no | apply d_no); (simp (disch := omega) [wrap64, avL_length, avL_take, avL_scal, at_new0, at_new, set_new0, set_new]; exact Red.rfl); decide)
         | ((with_reducible apply e_no'); (simp (disch := omega) [wrap64, avL_length, avL_take, avL_scal, at_new0, at_new, set_new0, set_new]; exact Red.rfl); decide)
         | ((with_reducible first | apply e_un | apply d_un | apply e_false); (simp (disch := omega) [wrap64, avL_length, avL_take, avL_scal, at_new0, at_new, set_new0, set_new]; exact Red.rfl))
         | ((with_reducible apply d_pure); rfl; (simp (disch := omega) [wrap64, avL_length, avL_take, avL_scal, at_new0, at_new, set_new0, set_new]; exact Red.rfl); exact Red.rfl; (focus (first | (simp; done) | omega | (simp; omega))))
         | ((with_reducible apply d_read); rfl; rfl; (simp (disch := omega) [wrap64, avL_length, avL_take, avL_scal, at_new0, at_new, set_new0, set_new]; exact Red.rfl); exact Red.rfl; (focus (first | (simp; done) | omega | (simp; omega))))
         | ((with_reducible apply d_read_); rfl; (simp (disch := omega) [wrap64, avL_length, avL_take, avL_scal, at_new0, at_new, set_new0, set_new]; exact Red.rfl); exact Red.rfl; (focus (first | (simp; done) | omega | (simp; omega))); (focus (simp [repast, pr, AOp.sem]; done)))
         | ((with_reducible apply d_new); rfl; (simp (disch := omega) [wrap64, avL_length, avL_take, avL_scal, at_new0, at_new, set_new0, set_new]; exact Red.rfl); exact Red.rfl; (focus (first | (simp; done) | omega | (simp; omega))); (focus (first | (simp; done) | (simp; omega))))
         | ((with_reducible first | apply d_do | apply d_set); rfl; rfl; rfl; (simp (disch := omega) [wrap64, avL_length, avL_take, avL_scal, at_new0, at_new, set_new0, set_new]; exact Red.rfl); exact Red.rfl; (focus (first | (simp; done) | omega | (simp; omega))); (focus (first | (simp; done) | (simp; omega))); (focus (first | (simp; done) | (simp; omega)))))
        (with_reducible apply d_call); (simp; exact Red.rfl); exact c_choose _ us bid boff bex _ (by rw [rd_old _ hbid]; exact hb) hu (by omega) (by omega) hn; (focus (first | (simp; done) | (simp; omega)))
        repeat (first
         | (with_reducible first | refine e_seq ?_ | refine e_ops ?_ | refine e_ret ?_ | refine e_exit ?_ | refine e_skip ?_ | refine e_block ?_ | refine e_scope ?_ | refine q_then ?_ | refine q_ret ?_ | refine q_exit ?_ | refine q_block ?_ | refine q_block_ret ?_ | refine q_block_exit ?_)
         | ((with_reducible apply q_block_other); decide)
         | (with_reducible first | refine q_again_ret ?_ | refine q_again_exit ?_ | refine q_scope ?_ | refine q_scope_ret ?_ | refine d_start ?_)
         | ((with_reducible first | apply e_end | apply d_end); (simp; exact Red.rfl))
         | ((with_reducible first | apply e_op | apply e_do); rfl; (simp (disch := omega) [wrap64, avL_length, avL_take, avL_scal, at_new0, at_new, set_new0, set_new]; exact Red.rfl); exact Red.rfl; (focus (first | (simp; done) | omega | (simp; omega))))
         | ((with_reducible first | apply e_yes | apply d_yes | apply e_true); (simp (disch := omega) [wrap64, avL_length, avL_take, avL_scal, at_new0, at_new, set_new0, set_new]; exact Red.rfl))
         | ((with_reducible first | apply e_no | apply d_no); (simp (disch := omega) [wrap64, avL_length, avL_take, avL_scal, at_new0, at_new, set_new0, set_new]; exact Red.rfl); decide)
         | ((with_reducible apply e_no'); (simp (disch := omega) [wrap64, avL_length, avL_take, avL_scal, at_new0, at_new, set_new0, set_new]; exact Red.rfl); decide)
         | ((with_reducible first | apply e_un | apply d_un | apply e_false); (simp (disch := omega) [wrap64, avL_length, avL_take, avL_scal, at_new0, at_new, set_new0, set_new]; exact Red.rfl))
         | ((with_reducible apply d_pure); rfl; (simp (disch := omega) [wrap64, avL_length, avL_take, avL_scal, at_new0, at_new, set_new0, set_new]; exact Red.rfl); exact Red.rfl; (focus (first | (simp; done) | omega | (simp; omega))))
         | ((with_reducible apply d_read); rfl; rfl; (simp (disch := omega) [wrap64, avL_length, avL_take, avL_scal, at_new0, at_new, set_new0, set_new]; exact Red.rfl); exact Red.rfl; (focus (first | (simp; done) | omega | (simp; omega))))
         | ((with_reducible apply d_read_); rfl; (simp (disch := omega) [wrap64, avL_length, avL_take, avL_scal, at_new0, at_new, set_new0, set_new]; exact Red.rfl); exact Red.rfl; (focus (first | (simp; done) | omega | (simp; omega))); (focus (simp [repast, pr, AOp.sem]; done)))
         | ((with_reducible apply d_new); rfl; (simp (disch := omega) [wrap64, avL_length, avL_take, avL_scal, at_new0, at_new, set_new0, set_new]; exact Red.rfl); exact Red.rfl; (focus (first | (simp; done) | omega | (simp; omega))); (focus (first | (simp; done) | (simp; omega))))
         | ((with_reducible first | apply d_do | apply d_set); rfl; rfl; rfl; (simp (disch := omega) [wrap64, avL_length, avL_take, avL_scal, at_new0, at_new, set_new0, set_new]; exact Red.rfl); exact Red.rfl; (focus (first | (simp; done) | omega | (simp; omega))); (focus (first | (simp; done) | (simp; omega))); (focus (first | (simp; done) | (simp; omega)))))
        (with_reducible apply d_call); (simp; exact Red.rfl); exact c_some _ _ _ _ (by omega) (by omega) (by omega) (chooseF_ge hu _).1 (chooseF_ge hu _).2; (focus (first | (simp; done) | (simp; omega)))
        repeat (first
         | (with_reducible first | refine e_seq ?_ | refine e_ops ?_ | refine e_ret ?_ | refine e_exit ?_ | refine e_skip ?_ | refine e_block ?_ | refine e_scope ?_ | refine q_then ?_ | refine q_ret ?_ | refine q_exit ?_ | refine q_block ?_ | refine q_block_ret ?_ | refine q_block_exit ?_)
         | ((with_reducible apply q_block_other); decide)
         | (with_reducible first | refine q_again_ret ?_ | refine q_again_exit ?_ | refine q_scope ?_ | refine q_scope_ret ?_ | refine d_start ?_)
         | ((with_reducible first | apply e_end | apply d_end); (simp; exact Red.rfl))
         | ((with_reducible first | apply e_op | apply e_do); rfl; (simp (disch := omega) [wrap64, avL_length, avL_take, avL_scal, at_new0, at_new, set_new0, set_new]; exact Red.rfl); exact Red.rfl; (focus (first | (simp; done) | omega | (simp; omega))))
         | ((with_reducible first | apply e_yes | apply d_yes | apply e_true); (simp (disch := omega) [wrap64, avL_length, avL_take, avL_scal, at_new0, at_new, set_new0, set_new]; exact Red.rfl))
         | ((with_reducible first | apply e_no | apply d_no); (simp (disch := omega) [wrap64, avL_length, avL_take, avL_scal, at_new0, at_new, set_new0, set_new]; exact Red.rfl); decide)
         | ((with_reducible apply e_no'); (simp (disch := omega) [wrap64, avL_length, avL_take, avL_scal, at_new0, at_new, set_new0, set_new]; exact Red.rfl); decide)
         | ((with_reducible first | apply e_un | apply d_un | apply e_false); (simp (disch := omega) [wrap64, avL_length, avL_take, avL_scal, at_new0, at_new, set_new0, set_new]; exact Red.rfl))
         | ((with_reducible apply d_pure); rfl; (simp (disch := omega) [wrap64, avL_length, avL_take, avL_scal, at_new0, at_new, set_new0, set_new]; exact Red.rfl); exact Red.rfl; (focus (first | (simp; done) | omega | (simp; omega))))
         | ((with_reducible apply d_read); rfl; rfl; (simp (disch := omega) [wrap64, avL_length, avL_take, avL_scal, at_new0, at_new, set_new0, set_new]; exact Red.rfl); exact Red.rfl; (focus (first | (simp; done) | omega | (simp; omega))))
         | ((with_reducible apply d_read_); rfl; (simp (disch := omega) [wrap64, avL_length, avL_take, avL_scal, at_new0, at_new, set_new0, set_new]; exact Red.rfl); exact Red.rfl; (focus (first | (simp; done) | omega | (simp; omega))); (focus (simp [repast, pr, AOp.sem]; done)))
         | ((with_reducible apply d_new); rfl; (simp (disch := omega) [wrap64, avL_length, avL_take, avL_scal, at_new0, at_new, set_new0, set_new]; exact Red.rfl); exact Red.rfl; (focus (first | (simp; done) | omega | (simp; omega))); (focus (first | (simp; done) | (simp; omega))))
         | ((with_reducible first | apply d_do | apply d_set); rfl; rfl; rfl; (simp (disch := omega) [wrap64, avL_length, avL_take, avL_scal, at_new0, at_new, set_new0, set_new]; exact Red.rfl); exact Red.rfl; (focus (first | (simp; done) | omega | (simp; omega))); (focus (first | (simp; done) | (simp; omega))); (focus (first | (simp; done) | (simp; omega)))))

        have e1 : someF a2 a3 (chooseF us (2 * ((n : Int) + 1))) = longF us l (n + 1) := by simp [longF, hst]
        have e2 : someF a4 a5 (chooseF us (2 * ((n : Int) + 1) + 1)) = fallF us l (n + 1) := by simp [fallF, hst]
        rw [e1, e2, ← avL_succ, ← avL_succ]
        refine q_again ⟨n + 1 + 1, by omega⟩ (by dsimp only; omega) (.inr ?_)
        exact le_keep2 (f := longF us l) (g := fallF us l) (n := n + 1 + 1) (m := n + 1 + 1) 4 6 (by decide) rfl rfl (by simp [sh, hid, hbid, AV.ren]; omega)
      · intro hge
        repeat (first
         | (with_reducible first | refine e_seq ?_ | refine e_ops ?_ | refine e_ret ?_ | refine e_exit ?_ | refine e_skip ?_ | refine e_block ?_ | refine e_scope ?_ | refine q_then ?_ | refine q_ret ?_ | refine q_exit ?_ | refine q_block ?_ | refine q_block_ret ?_ | refine q_block_exit ?_)
         | ((with_reducible apply q_block_other); decide)
         | (with_reducible first | refine q_again_ret ?_ | refine q_again_exit ?_ | refine q_scope ?_ | refine q_scope_ret ?_ | refine d_start ?_)
         | ((with_reducible first | apply e_end | apply d_end); (simp; exact Red.rfl))
         | ((with_reducible first | apply e_op | apply e_do); rfl; (simp (disch := omega) [wrap64]; exact Red.rfl); exact Red.rfl; (focus (first | (simp; done) | omega | (simp; omega))))
         | ((with_reducible first | apply e_yes | apply d_yes | apply e_true); (simp (disch := omega) [wrap64]; exact Red.rfl))
         | ((with_reducible first | apply e_no | apply d_no); (simp (disch := omega) [wrap64]; exact Red.rfl); decide)
         | ((with_reducible apply e_no'); (simp (disch := omega) [wrap64]; exact Red.rfl); decide)
         | ((with_reducible first | apply e_un | apply d_un | apply e_false); (simp (disch := omega) [wrap64]; exact Red.rfl))
         | ((with_reducible apply d_pure); rfl; (simp (disch := omega) [wrap64]; exact Red.rfl); exact Red.rfl; (focus (first | (simp; done) | omega | (simp; omega))))
         | ((with_reducible apply d_read); rfl; rfl; (simp (disch := omega) [wrap64]; exact Red.rfl); exact Red.rfl; (focus (first | (simp; done) | omega | (simp; omega))))
         | ((with_reducible apply d_read_); rfl; (simp (disch := omega) [wrap64]; exact Red.rfl); exact Red.rfl; (focus (first | (simp; done) | omega | (simp; omega))); (focus (simp [repast, pr, AOp.sem]; done)))
         | ((with_reducible apply d_new); rfl; (simp (disch := omega) [wrap64]; exact Red.rfl); exact Red.rfl; (focus (first | (simp; done) | omega | (simp; omega))); (focus (first | (simp; done) | (simp; omega))))
         | ((with_reducible first | apply d_do | apply d_set); rfl; rfl; rfl; (simp (disch := omega) [wrap64]; exact Red.rfl); exact Red.rfl; (focus (first | (simp; done) | omega | (simp; omega))); (focus (first | (simp; done) | (simp; omega))); (focus (first | (simp; done) | (simp; omega)))))
        have e : n + 1 = l.length := by omega
        rw [e]
        exact q_stay (.inr rfl) (by simp; exact Red.rfl) ⟨rfl, rfl⟩
end Go.Proofs
