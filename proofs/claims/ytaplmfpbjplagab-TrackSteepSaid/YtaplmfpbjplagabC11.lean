/- Contracts: what is picked, and the steepest. -/
import Derived.Test.YtaplmfpbjplagabC10
namespace Go.Proofs
open Go.Abs
attribute [local simp] AOp.den AOpd.ev lk cellsOf rd_new rd_new0 rd_zero rd_succ wr_new wr_new0 wr_zero wr_succ splice fillA binA scal sliceCells List.length_append argsT AV.sc scL AObj.sc resV getAll AR.get AOp.slots opdSlots opdsSlots partSlots eqAt
set_option linter.unusedSimpArgs false
set_option linter.unusedVariables false

def selB (l : List Str) (i : Nat) : Bool := (List.range l.length).all fun k => !(decide (k ≠ i ∧ (strAt l i).fHi * (strAt l k).lHi < (strAt l k).fLo * (strAt l i).lLo))
theorem selB_iff {l : List Str} {i : Nat} (hi : i < l.length) : selB l i = true ↔ ∀ k, k < l.length → ¬ steepB l i l[i] k := by
  simp only [selB, List.all_eq_true, List.mem_range, Bool.not_eq_true', decide_eq_false_iff_not, steepB, strAt_eq hi]
def ksF (l : List Str) (n : Nat) : List Nat := (List.range n).filter (selB l)
theorem ksF_succ (l : List Str) (n : Nat) : ksF l (n + 1) = if selB l n = true then ksF l n ++ [n] else ksF l n := by
  simp only [ksF, List.range_succ, List.filter_append, List.filter_cons, List.filter_nil]
  split <;> simp
def avN (xs : List Nat) : List AV := xs.map fun k : Nat => .int .i64 (k : Int)
def pkV (n : Nat) : List Nat → AV
  | [] => .nilslice
  | a :: r => .slice n 0 (a :: r).length 1 false
def pkH (H : Heap) : List Nat → Heap
  | [] => H
  | a :: r => H ++ [.cells (avN (a :: r)) true]

theorem pkV_nil (n : Nat) : pkV n [] = .nilslice := rfl
theorem pkV_cons (n a : Nat) (r : List Nat) : pkV n (a :: r) = .slice n 0 (r.length + 1) 1 false := rfl
theorem pkH_nil (H : Heap) : pkH H [] = H := rfl
theorem pkH_cons (H : Heap) (a : Nat) (r : List Nat) : pkH H (a :: r) = H ++ [.cells (avN (a :: r)) true] := rfl
theorem avN_length (xs : List Nat) : (avN xs).length = xs.length := by simp [avN]
theorem avN_take (a : Nat) (r : List Nat) : (avN (a :: r)).take (r.length + 1) = avN (a :: r) := List.take_of_length_le (by simp [avN_length])
theorem avN_app (xs : List Nat) (k : Nat) : avN xs ++ [.int .i64 (k : Int)] = avN (xs ++ [k]) := by simp [avN]
theorem avN_sc (m : Nat) : ∀ xs : List Nat, scL m (avN xs) = true
  | [] => rfl
  | a :: r => by simpa [avN, scL, AV.sc] using avN_sc m r
theorem avN_ren (ρ : Nat → Nat) : ∀ xs : List Nat, renL ρ (avN xs) = avN xs
  | [] => rfl
  | a :: r => by simpa [avN, renL, AV.ren] using avN_ren ρ r
/-- One of the new objects stays, with numbers only. -/
theorem le_keep1 {H G : Heap} {t t' : List (Nat × AV)} (p : Nat) {xs : List Nat} (hp : G[p]? = some (.cells (avN xs) true))
    (hv : ∀ x ∈ t', x.2.sc (H.length + 1) = true ∧ lk t x.1 = x.2.ren (sh H.length [p])) : Le H ⟨t, H ++ G⟩ ⟨t', H ++ [.cells (avN xs) true]⟩ := by
  refine le_keep [p] rfl (by simp) ?_ hv
  intro k r o h1 h2
  rcases k with _ | k
  · simp at h1 h2; subst h1; subst h2
    exact .inr ⟨by simp [AObj.sc, avN_sc], by simp [AObj.ren, avN_ren, hp]⟩
  · simp at h1

theorem c_pick (H : Heap) (l : List Str) (id off tid : Nat) (ex : Bool) (hs : rd H id off (l.length * 9) = some (l.flatMap Str.av)) (hv : validL l)
    (ht : rd H tid 0 1 = some [.slice id off l.length 9 ex]) :
    ACalls Try.prog F.track_pick_api_Stretch [.slice id off l.length 9 ex, .fn (.func F.track_Steepest_1) [] [.ptr tid 0]] H (fun v h' => v = pkV H.length (ksF l l.length) ∧ h' = pkH H (ksF l l.length)) := by
  refine acalls_of ok_track_pick_api_Stretch rfl fun hcl => ?_
  unfold ac_track_pick_api_Stretch
  simp only [argsT, Nat.zero_add, Nat.reduceAdd]
  have hid := rd_lt hs
  have htid := rd_lt ht
  have h12 := hv.1
  repeat (first
   | (with_reducible first | refine e_seq ?_ | refine e_ops ?_ | refine e_ret ?_ | refine e_exit ?_ | refine e_skip ?_ | refine e_block ?_ | refine e_scope ?_ | refine q_then ?_ | refine q_ret ?_ | refine q_exit ?_ | refine q_block ?_ | refine q_block_ret ?_ | refine q_block_exit ?_)
   | ((with_reducible apply q_block_other); decide)
   | (with_reducible first | refine q_again_ret ?_ | refine q_again_exit ?_ | refine q_scope ?_ | refine q_scope_ret ?_ | refine d_start ?_)
   | ((with_reducible first | apply e_end | apply d_end); (simp; exact Red.rfl))
   | ((with_reducible first | apply e_op | apply e_do); rfl; (simp (disch := omega) [wrap64]; exact Red.rfl); exact Red.rfl; (focus (first | (simp; done) | omega | (simp; omega))))
   | ((with_reducible first | apply e_yes | apply d_yes | apply e_true); (simp (disch := omega) [wrap64]; exact Red.rfl))
   | ((with_reducible first | apply e_no | apply d_no); (simp (disch := omega) [wrap64]; exact Red.rfl); decide)
   | ((with_reducible apply e_no'); (simp (disch := omega) [wrap64]; exact Red.rfl); decide)
   | ((with_reducible first | apply e_un | apply d_un | apply e_false); (simp (disch := omega) [wrap64]; exact Red.rfl))
   | ((with_reducible apply d_pure); rfl; (simp (disch := omega) [wrap64]; exact Red.rfl); exact Red.rfl; (focus (first | (simp; done) | omega | (simp; omega))))
   | ((with_reducible apply d_read); rfl; rfl; (simp (disch := omega) [wrap64]; exact Red.rfl); exact Red.rfl; (focus (first | (simp; done) | omega | (simp; omega))))
   | ((with_reducible apply d_read_); rfl; (simp (disch := omega) [wrap64]; exact Red.rfl); exact Red.rfl; (focus (first | (simp; done) | omega | (simp; omega))); (focus (simp [repast, pr, AOp.sem]; done)))
   | ((with_reducible apply d_new); rfl; (simp (disch := omega) [wrap64]; exact Red.rfl); exact Red.rfl; (focus (first | (simp; done) | omega | (simp; omega))); (focus (first | (simp; done) | (simp; omega))))
   | ((with_reducible first | apply d_do | apply d_set); rfl; rfl; rfl; (simp (disch := omega) [wrap64]; exact Red.rfl); exact Red.rfl; (focus (first | (simp; done) | omega | (simp; omega))); (focus (first | (simp; done) | (simp; omega))); (focus (first | (simp; done) | (simp; omega)))))
  refine e_loop (ι := { k : Nat // k ≤ l.length })
    (fun k => [(1, .fn (.func F.track_Steepest_1) [] [.ptr tid 0]), (5, pkV H.length (ksF l k.1)), (8, .slice id off l.length 9 ex), (9, .int .i64 l.length), (10, .int .i64 k.1)])
    (fun k => pkH H (ksF l k.1)) (fun k => l.length - k.1) ⟨0, by simp⟩ ?_ ?_
  · exact .inr <| le_id (by simp [hid, htid, ksF, pkV])
  · rintro ⟨k, hk⟩
    dsimp only
    by_cases hlt : k < l.length
    · have hlt2 : (k : Int) < l.length := by omega
      have hx := rd_row Str.av_length hs hlt
      have hsel := selB_iff hlt
      have hks := ksF_succ l k
      generalize hsi : l[k] = s at hx hsel
      have hcall := fun G (h1 : rd G id off (l.length * 9) = some (l.flatMap Str.av)) (h2 : rd G tid 0 1 = some [.slice id off l.length 9 ex]) => c_steep1 G l id off k tid ex h1 hv hlt h2
      simp only [hsi] at hcall
      obtain ⟨a1, a2, a3, a4, a5, a6, a7, a8, a9⟩ := s
      simp only [Str.av] at hx hcall
      rcases hkk : ksF l k with _ | ⟨a, r⟩
      · rw [hkk] at hks
        simp only [pkV_nil, pkH_nil]
        repeat (first
         | (with_reducible first | refine e_seq ?_ | refine e_ops ?_ | refine e_ret ?_ | refine e_exit ?_ | refine e_skip ?_ | refine e_block ?_ | refine e_scope ?_ | refine q_then ?_ | refine q_ret ?_ | refine q_exit ?_ | refine q_block ?_ | refine q_block_ret ?_ | refine q_block_exit ?_)
         | ((with_reducible apply q_block_other); decide)
         | (with_reducible first | refine q_again_ret ?_ | refine q_again_exit ?_ | refine q_scope ?_ | refine q_scope_ret ?_ | refine d_start ?_)
         | ((with_reducible first | apply e_end | apply d_end); (simp; exact Red.rfl))
         | ((with_reducible first | apply e_op | apply e_do); rfl; (simp (disch := omega) [wrap64, rd_old _ hid, hx, hlt2, hlt]; exact Red.rfl); exact Red.rfl; (focus (first | (simp; done) | omega | (simp; omega))))
         | ((with_reducible first | apply e_yes | apply d_yes | apply e_true); (simp (disch := omega) [wrap64, rd_old _ hid, hx, hlt2, hlt]; exact Red.rfl))
         | ((with_reducible first | apply e_no | apply d_no); (simp (disch := omega) [wrap64, rd_old _ hid, hx, hlt2, hlt]; exact Red.rfl); decide)
         | ((with_reducible apply e_no'); (simp (disch := omega) [wrap64, rd_old _ hid, hx, hlt2, hlt]; exact Red.rfl); decide)
         | ((with_reducible first | apply e_un | apply d_un | apply e_false); (simp (disch := omega) [wrap64, rd_old _ hid, hx, hlt2, hlt]; exact Red.rfl))
         | ((with_reducible apply d_pure); rfl; (simp (disch := omega) [wrap64, rd_old _ hid, hx, hlt2, hlt]; exact Red.rfl); exact Red.rfl; (focus (first | (simp; done) | omega | (simp; omega))))
         | ((with_reducible apply d_read); rfl; rfl; (simp (disch := omega) [wrap64, rd_old _ hid, hx, hlt2, hlt]; exact Red.rfl); exact Red.rfl; (focus (first | (simp; done) | omega | (simp; omega))))
         | ((with_reducible apply d_read_); rfl; (simp (disch := omega) [wrap64, rd_old _ hid, hx, hlt2, hlt]; exact Red.rfl); exact Red.rfl; (focus (first | (simp; done) | omega | (simp; omega))); (focus (simp [repast, pr, AOp.sem]; done)))
         | ((with_reducible apply d_new); rfl; (simp (disch := omega) [wrap64, rd_old _ hid, hx, hlt2, hlt]; exact Red.rfl); exact Red.rfl; (focus (first | (simp; done) | omega | (simp; omega))); (focus (first | (simp; done) | (simp; omega))))
         | ((with_reducible first | apply d_do | apply d_set); rfl; rfl; rfl; (simp (disch := omega) [wrap64, rd_old _ hid, hx, hlt2, hlt]; exact Red.rfl); exact Red.rfl; (focus (first | (simp; done) | omega | (simp; omega))); (focus (first | (simp; done) | (simp; omega))); (focus (first | (simp; done) | (simp; omega)))))
        (with_reducible apply e_callV); (simp; exact Red.rfl); (simp; exact Red.rfl); exact hcall _ (by rw [rd_old _ hid]; exact hs) (by rw [rd_old _ htid]; exact ht)
        rintro _ _ ⟨rfl, b, rfl, hb⟩
        have hbs : selB l k = b := by rw [Bool.eq_iff_iff, hb, hsel]
        rw [hbs] at hks
        cases b with
        | true =>
          simp only [if_true, List.nil_append] at hks
          repeat (first
           | (with_reducible first | refine e_seq ?_ | refine e_ops ?_ | refine e_ret ?_ | refine e_exit ?_ | refine e_skip ?_ | refine e_block ?_ | refine e_scope ?_ | refine q_then ?_ | refine q_ret ?_ | refine q_exit ?_ | refine q_block ?_ | refine q_block_ret ?_ | refine q_block_exit ?_)
           | ((with_reducible apply q_block_other); decide)
           | (with_reducible first | refine q_again_ret ?_ | refine q_again_exit ?_ | refine q_scope ?_ | refine q_scope_ret ?_ | refine d_start ?_)
           | ((with_reducible first | apply e_end | apply d_end); (simp; exact Red.rfl))
           | ((with_reducible first | apply e_op | apply e_do); rfl; (simp (disch := omega) [wrap64]; exact Red.rfl); exact Red.rfl; (focus (first | (simp; done) | omega | (simp; omega))))
           | ((with_reducible first | apply e_yes | apply d_yes | apply e_true); (simp (disch := omega) [wrap64]; exact Red.rfl))
           | ((with_reducible first | apply e_no | apply d_no); (simp (disch := omega) [wrap64]; exact Red.rfl); decide)
           | ((with_reducible apply e_no'); (simp (disch := omega) [wrap64]; exact Red.rfl); decide)
           | ((with_reducible first | apply e_un | apply d_un | apply e_false); (simp (disch := omega) [wrap64]; exact Red.rfl))
           | ((with_reducible apply d_pure); rfl; (simp (disch := omega) [wrap64]; exact Red.rfl); exact Red.rfl; (focus (first | (simp; done) | omega | (simp; omega))))
           | ((with_reducible apply d_read); rfl; rfl; (simp (disch := omega) [wrap64]; exact Red.rfl); exact Red.rfl; (focus (first | (simp; done) | omega | (simp; omega))))
           | ((with_reducible apply d_read_); rfl; (simp (disch := omega) [wrap64]; exact Red.rfl); exact Red.rfl; (focus (first | (simp; done) | omega | (simp; omega))); (focus (simp [repast, pr, AOp.sem]; done)))
           | ((with_reducible apply d_new); rfl; (simp (disch := omega) [wrap64]; exact Red.rfl); exact Red.rfl; (focus (first | (simp; done) | omega | (simp; omega))); (focus (first | (simp; done) | (simp; omega))))
           | ((with_reducible first | apply d_do | apply d_set); rfl; rfl; rfl; (simp (disch := omega) [wrap64]; exact Red.rfl); exact Red.rfl; (focus (first | (simp; done) | omega | (simp; omega))); (focus (first | (simp; done) | (simp; omega))); (focus (first | (simp; done) | (simp; omega)))))
          refine q_again ⟨k + 1, by omega⟩ (by dsimp only; omega) (.inr ?_)
          dsimp only
          rw [hks]
          simp only [pkV_cons, pkH_cons]
          exact le_keep1 2 (by simp [avN]) (by simp [sh, hid, htid, AV.ren, renL]; omega)
        | false =>
          simp only [Bool.false_eq_true, if_false] at hks
          repeat (first
           | (with_reducible first | refine e_seq ?_ | refine e_ops ?_ | refine e_ret ?_ | refine e_exit ?_ | refine e_skip ?_ | refine e_block ?_ | refine e_scope ?_ | refine q_then ?_ | refine q_ret ?_ | refine q_exit ?_ | refine q_block ?_ | refine q_block_ret ?_ | refine q_block_exit ?_)
           | ((with_reducible apply q_block_other); decide)
           | (with_reducible first | refine q_again_ret ?_ | refine q_again_exit ?_ | refine q_scope ?_ | refine q_scope_ret ?_ | refine d_start ?_)
           | ((with_reducible first | apply e_end | apply d_end); (simp; exact Red.rfl))
           | ((with_reducible first | apply e_op | apply e_do); rfl; (simp (disch := omega) [wrap64]; exact Red.rfl); exact Red.rfl; (focus (first | (simp; done) | omega | (simp; omega))))
           | ((with_reducible first | apply e_yes | apply d_yes | apply e_true); (simp (disch := omega) [wrap64]; exact Red.rfl))
           | ((with_reducible first | apply e_no | apply d_no); (simp (disch := omega) [wrap64]; exact Red.rfl); decide)
           | ((with_reducible apply e_no'); (simp (disch := omega) [wrap64]; exact Red.rfl); decide)
           | ((with_reducible first | apply e_un | apply d_un | apply e_false); (simp (disch := omega) [wrap64]; exact Red.rfl))
           | ((with_reducible apply d_pure); rfl; (simp (disch := omega) [wrap64]; exact Red.rfl); exact Red.rfl; (focus (first | (simp; done) | omega | (simp; omega))))
           | ((with_reducible apply d_read); rfl; rfl; (simp (disch := omega) [wrap64]; exact Red.rfl); exact Red.rfl; (focus (first | (simp; done) | omega | (simp; omega))))
           | ((with_reducible apply d_read_); rfl; (simp (disch := omega) [wrap64]; exact Red.rfl); exact Red.rfl; (focus (first | (simp; done) | omega | (simp; omega))); (focus (simp [repast, pr, AOp.sem]; done)))
           | ((with_reducible apply d_new); rfl; (simp (disch := omega) [wrap64]; exact Red.rfl); exact Red.rfl; (focus (first | (simp; done) | omega | (simp; omega))); (focus (first | (simp; done) | (simp; omega))))
           | ((with_reducible first | apply d_do | apply d_set); rfl; rfl; rfl; (simp (disch := omega) [wrap64]; exact Red.rfl); exact Red.rfl; (focus (first | (simp; done) | omega | (simp; omega))); (focus (first | (simp; done) | (simp; omega))); (focus (first | (simp; done) | (simp; omega)))))
          refine q_again ⟨k + 1, by omega⟩ (by dsimp only; omega) (.inr ?_)
          dsimp only
          rw [hks]
          simp only [pkV_nil, pkH_nil]
          exact le_drop (by simp [hid, htid])
      · rw [hkk] at hks
        simp only [pkV_cons, pkH_cons]
        have hal : (avN (a :: r)).all scal = true := by simp [avN, scal]
        have hrl : r.length + 1 ≤ 12 := by
          have := List.length_filter_le (selB l) (List.range k)
          have h2 : (ksF l k).length = r.length + 1 := by rw [hkk]; rfl
          simp only [ksF] at h2
          simp at this
          omega
        repeat (first
         | (with_reducible first | refine e_seq ?_ | refine e_ops ?_ | refine e_ret ?_ | refine e_exit ?_ | refine e_skip ?_ | refine e_block ?_ | refine e_scope ?_ | refine q_then ?_ | refine q_ret ?_ | refine q_exit ?_ | refine q_block ?_ | refine q_block_ret ?_ | refine q_block_exit ?_)
         | ((with_reducible apply q_block_other); decide)
         | (with_reducible first | refine q_again_ret ?_ | refine q_again_exit ?_ | refine q_scope ?_ | refine q_scope_ret ?_ | refine d_start ?_)
         | ((with_reducible first | apply e_end | apply d_end); (simp; exact Red.rfl))
         | ((with_reducible first | apply e_op | apply e_do); rfl; (simp (disch := omega) [wrap64, rd_old _ hid, hx, hlt2, hlt]; exact Red.rfl); exact Red.rfl; (focus (first | (simp; done) | omega | (simp; omega))))
         | ((with_reducible first | apply e_yes | apply d_yes | apply e_true); (simp (disch := omega) [wrap64, rd_old _ hid, hx, hlt2, hlt]; exact Red.rfl))
         | ((with_reducible first | apply e_no | apply d_no); (simp (disch := omega) [wrap64, rd_old _ hid, hx, hlt2, hlt]; exact Red.rfl); decide)
         | ((with_reducible apply e_no'); (simp (disch := omega) [wrap64, rd_old _ hid, hx, hlt2, hlt]; exact Red.rfl); decide)
         | ((with_reducible first | apply e_un | apply d_un | apply e_false); (simp (disch := omega) [wrap64, rd_old _ hid, hx, hlt2, hlt]; exact Red.rfl))
         | ((with_reducible apply d_pure); rfl; (simp (disch := omega) [wrap64, rd_old _ hid, hx, hlt2, hlt]; exact Red.rfl); exact Red.rfl; (focus (first | (simp; done) | omega | (simp; omega))))
         | ((with_reducible apply d_read); rfl; rfl; (simp (disch := omega) [wrap64, rd_old _ hid, hx, hlt2, hlt]; exact Red.rfl); exact Red.rfl; (focus (first | (simp; done) | omega | (simp; omega))))
         | ((with_reducible apply d_read_); rfl; (simp (disch := omega) [wrap64, rd_old _ hid, hx, hlt2, hlt]; exact Red.rfl); exact Red.rfl; (focus (first | (simp; done) | omega | (simp; omega))); (focus (simp [repast, pr, AOp.sem]; done)))
         | ((with_reducible apply d_new); rfl; (simp (disch := omega) [wrap64, rd_old _ hid, hx, hlt2, hlt]; exact Red.rfl); exact Red.rfl; (focus (first | (simp; done) | omega | (simp; omega))); (focus (first | (simp; done) | (simp; omega))))
         | ((with_reducible first | apply d_do | apply d_set); rfl; rfl; rfl; (simp (disch := omega) [wrap64, rd_old _ hid, hx, hlt2, hlt]; exact Red.rfl); exact Red.rfl; (focus (first | (simp; done) | omega | (simp; omega))); (focus (first | (simp; done) | (simp; omega))); (focus (first | (simp; done) | (simp; omega)))))
        (with_reducible apply e_callV); (simp; exact Red.rfl); (simp; exact Red.rfl); exact hcall _ (by rw [rd_old _ hid]; exact hs) (by rw [rd_old _ htid]; exact ht)
        rintro _ _ ⟨rfl, b, rfl, hb⟩
        have hbs : selB l k = b := by rw [Bool.eq_iff_iff, hb, hsel]
        rw [hbs] at hks
        cases b with
        | true =>
          simp only [if_true, List.cons_append] at hks
          repeat (first
           | (with_reducible first | refine e_seq ?_ | refine e_ops ?_ | refine e_ret ?_ | refine e_exit ?_ | refine e_skip ?_ | refine e_block ?_ | refine e_scope ?_ | refine q_then ?_ | refine q_ret ?_ | refine q_exit ?_ | refine q_block ?_ | refine q_block_ret ?_ | refine q_block_exit ?_)
           | ((with_reducible apply q_block_other); decide)
           | (with_reducible first | refine q_again_ret ?_ | refine q_again_exit ?_ | refine q_scope ?_ | refine q_scope_ret ?_ | refine d_start ?_)
           | ((with_reducible first | apply e_end | apply d_end); (simp; exact Red.rfl))
           | ((with_reducible first | apply e_op | apply e_do); rfl; (simp (disch := omega) [wrap64, avN_length, avN_take, at_new0, at_new, set_new0, set_new]; exact Red.rfl); exact Red.rfl; (focus (first | (simp; done) | omega | (simp; omega))))
           | ((with_reducible first | apply e_yes | apply d_yes | apply e_true); (simp (disch := omega) [wrap64, avN_length, avN_take, at_new0, at_new, set_new0, set_new]; exact Red.rfl))
           | ((with_reducible first | apply e_no | apply d_no); (simp (disch := omega) [wrap64, avN_length, avN_take, at_new0, at_new, set_new0, set_new]; exact Red.rfl); decide)
           | ((with_reducible apply e_no'); (simp (disch := omega) [wrap64, avN_length, avN_take, at_new0, at_new, set_new0, set_new]; exact Red.rfl); decide)
           | ((with_reducible first | apply e_un | apply d_un | apply e_false); (simp (disch := omega) [wrap64, avN_length, avN_take, at_new0, at_new, set_new0, set_new]; exact Red.rfl))
           | ((with_reducible apply d_pure); rfl; (simp (disch := omega) [wrap64, avN_length, avN_take, at_new0, at_new, set_new0, set_new]; exact Red.rfl); exact Red.rfl; (focus (first | (simp; done) | omega | (simp; omega))))
           | ((with_reducible apply d_read); rfl; rfl; (simp (disch := omega) [wrap64, avN_length, avN_take, at_new0, at_new, set_new0, set_new]; exact Red.rfl); exact Red.rfl; (focus (first | (simp; done) | omega | (simp; omega))))
           | ((with_reducible apply d_read_); rfl; (simp (disch := omega) [wrap64, avN_length, avN_take, at_new0, at_new, set_new0, set_new]; exact Red.rfl); exact Red.rfl; (focus (first | (simp; done) | omega | (simp; omega))); (focus (simp [repast, pr, AOp.sem]; done)))
           | ((with_reducible apply d_new); rfl; (simp (disch := omega) [wrap64, avN_length, avN_take, at_new0, at_new, set_new0, set_new]; exact Red.rfl); exact Red.rfl; (focus (first | (simp; done) | omega | (simp; omega))); (focus (first | (simp; done) | (simp; omega))))
           | ((with_reducible first | apply d_do | apply d_set); rfl; rfl; rfl; (simp (disch := omega) [wrap64, avN_length, avN_take, at_new0, at_new, set_new0, set_new]; exact Red.rfl); exact Red.rfl; (focus (first | (simp; done) | omega | (simp; omega))); (focus (first | (simp; done) | (simp; omega))); (focus (first | (simp; done) | (simp; omega)))))
          refine q_again ⟨k + 1, by omega⟩ (by dsimp only; omega) (.inr ?_)
          dsimp only
          rw [hks, avN_app]
          simp only [pkV_cons, pkH_cons]
          exact le_keep1 3 (by simp) (by simp [sh, hid, htid, AV.ren, renL]; omega)
        | false =>
          simp only [Bool.false_eq_true, if_false] at hks
          repeat (first
           | (with_reducible first | refine e_seq ?_ | refine e_ops ?_ | refine e_ret ?_ | refine e_exit ?_ | refine e_skip ?_ | refine e_block ?_ | refine e_scope ?_ | refine q_then ?_ | refine q_ret ?_ | refine q_exit ?_ | refine q_block ?_ | refine q_block_ret ?_ | refine q_block_exit ?_)
           | ((with_reducible apply q_block_other); decide)
           | (with_reducible first | refine q_again_ret ?_ | refine q_again_exit ?_ | refine q_scope ?_ | refine q_scope_ret ?_ | refine d_start ?_)
           | ((with_reducible first | apply e_end | apply d_end); (simp; exact Red.rfl))
           | ((with_reducible first | apply e_op | apply e_do); rfl; (simp (disch := omega) [wrap64]; exact Red.rfl); exact Red.rfl; (focus (first | (simp; done) | omega | (simp; omega))))
           | ((with_reducible first | apply e_yes | apply d_yes | apply e_true); (simp (disch := omega) [wrap64]; exact Red.rfl))
           | ((with_reducible first | apply e_no | apply d_no); (simp (disch := omega) [wrap64]; exact Red.rfl); decide)
           | ((with_reducible apply e_no'); (simp (disch := omega) [wrap64]; exact Red.rfl); decide)
           | ((with_reducible first | apply e_un | apply d_un | apply e_false); (simp (disch := omega) [wrap64]; exact Red.rfl))
           | ((with_reducible apply d_pure); rfl; (simp (disch := omega) [wrap64]; exact Red.rfl); exact Red.rfl; (focus (first | (simp; done) | omega | (simp; omega))))
           | ((with_reducible apply d_read); rfl; rfl; (simp (disch := omega) [wrap64]; exact Red.rfl); exact Red.rfl; (focus (first | (simp; done) | omega | (simp; omega))))
           | ((with_reducible apply d_read_); rfl; (simp (disch := omega) [wrap64]; exact Red.rfl); exact Red.rfl; (focus (first | (simp; done) | omega | (simp; omega))); (focus (simp [repast, pr, AOp.sem]; done)))
           | ((with_reducible apply d_new); rfl; (simp (disch := omega) [wrap64]; exact Red.rfl); exact Red.rfl; (focus (first | (simp; done) | omega | (simp; omega))); (focus (first | (simp; done) | (simp; omega))))
           | ((with_reducible first | apply d_do | apply d_set); rfl; rfl; rfl; (simp (disch := omega) [wrap64]; exact Red.rfl); exact Red.rfl; (focus (first | (simp; done) | omega | (simp; omega))); (focus (first | (simp; done) | (simp; omega))); (focus (first | (simp; done) | (simp; omega)))))
          refine q_again ⟨k + 1, by omega⟩ (by dsimp only; omega) (.inr ?_)
          dsimp only
          rw [hks]
          simp only [pkV_cons, pkH_cons]
          exact le_take (G := [_]) (by simp [avN_sc]) (by simp [hid, htid, Red]; omega)
    · have hlt2 : ¬ (k : Int) < l.length := by omega
      obtain rfl : k = l.length := by omega
      repeat (first
       | (with_reducible first | refine e_seq ?_ | refine e_ops ?_ | refine e_ret ?_ | refine e_exit ?_ | refine e_skip ?_ | refine e_block ?_ | refine e_scope ?_ | refine q_then ?_ | refine q_ret ?_ | refine q_exit ?_ | refine q_block ?_ | refine q_block_ret ?_ | refine q_block_exit ?_)
       | ((with_reducible apply q_block_other); decide)
       | (with_reducible first | refine q_again_ret ?_ | refine q_again_exit ?_ | refine q_scope ?_ | refine q_scope_ret ?_ | refine d_start ?_)
       | ((with_reducible first | apply e_end | apply d_end); (simp; exact Red.rfl))
       | ((with_reducible first | apply e_op | apply e_do); rfl; (simp (disch := omega) [wrap64, hlt2]; exact Red.rfl); exact Red.rfl; (focus (first | (simp; done) | omega | (simp; omega))))
       | ((with_reducible first | apply e_yes | apply d_yes | apply e_true); (simp (disch := omega) [wrap64, hlt2]; exact Red.rfl))
       | ((with_reducible first | apply e_no | apply d_no); (simp (disch := omega) [wrap64, hlt2]; exact Red.rfl); decide)
       | ((with_reducible apply e_no'); (simp (disch := omega) [wrap64, hlt2]; exact Red.rfl); decide)
       | ((with_reducible first | apply e_un | apply d_un | apply e_false); (simp (disch := omega) [wrap64, hlt2]; exact Red.rfl))
       | ((with_reducible apply d_pure); rfl; (simp (disch := omega) [wrap64, hlt2]; exact Red.rfl); exact Red.rfl; (focus (first | (simp; done) | omega | (simp; omega))))
       | ((with_reducible apply d_read); rfl; rfl; (simp (disch := omega) [wrap64, hlt2]; exact Red.rfl); exact Red.rfl; (focus (first | (simp; done) | omega | (simp; omega))))
       | ((with_reducible apply d_read_); rfl; (simp (disch := omega) [wrap64, hlt2]; exact Red.rfl); exact Red.rfl; (focus (first | (simp; done) | omega | (simp; omega))); (focus (simp [repast, pr, AOp.sem]; done)))
       | ((with_reducible apply d_new); rfl; (simp (disch := omega) [wrap64, hlt2]; exact Red.rfl); exact Red.rfl; (focus (first | (simp; done) | omega | (simp; omega))); (focus (first | (simp; done) | (simp; omega))))
       | ((with_reducible first | apply d_do | apply d_set); rfl; rfl; rfl; (simp (disch := omega) [wrap64, hlt2]; exact Red.rfl); exact Red.rfl; (focus (first | (simp; done) | omega | (simp; omega))); (focus (first | (simp; done) | (simp; omega))); (focus (first | (simp; done) | (simp; omega)))))
      exact q_stay (.inr rfl) (by simp; exact Red.rfl) ⟨rfl, rfl⟩
end Go.Proofs
