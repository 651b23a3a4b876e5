/- Contracts: where a place may be. -/
import Derived.Test.YtjagjbelmonpmaaDD
namespace Go.Proofs
open Go.Abs
attribute [local simp] AOp.den AOpd.ev lk cellsOf rd_new rd_new0 rd_zero rd_succ wr_new wr_new0 wr_zero wr_succ splice fillA binA scal sliceCells List.length_append argsT AV.sc scL AObj.sc resV getAll AR.get AOp.slots opdSlots opdsSlots partSlots eqAt at_new0 at_new set_new0 set_new wrap64
set_option linter.unusedSimpArgs false
set_option linter.unusedVariables false
def avK (xs : List Nat) : List AV := xs.map fun k : Nat => .int .i64 (k : Int)
theorem avK_length (xs : List Nat) : (avK xs).length = xs.length := by simp [avK]
theorem avK_app (xs : List Nat) (k : Nat) : avK xs ++ [.int .i64 (k : Int)] = avK (xs ++ [k]) := by simp [avK]
theorem plain_one (x : Int) : Plain [.int .i64 x] := ⟨rfl, fun _ => rfl, fun _ => rfl⟩
theorem plainK : ∀ xs : List Nat, Plain (avK xs)
  | [] => Plain.nil
  | a :: r => (plain_one a).app (plainK r)
def pV (n : Nat) (xs : List Nat) : AV := if xs = [] then .nilslice else .slice n 0 xs.length 1 false
def pH (H : Heap) (xs : List Nat) : Heap := if xs = [] then H else H ++ [.cells (avK xs) true]
def selF (sel : Nat → Bool) (n : Nat) : List Nat := (List.range n).filter sel
theorem selF_succ (sel : Nat → Bool) (n : Nat) : selF sel (n + 1) = if sel n = true then selF sel n ++ [n] else selF sel n := by
  simp only [selF, List.range_succ, List.filter_append, List.filter_cons, List.filter_nil]
  split <;> simp
theorem selF_len (sel : Nat → Bool) (n : Nat) : (selF sel n).length ≤ n := by
  have := List.length_filter_le sel (List.range n)
  simpa [selF] using this

theorem c_pickSpan (H : Heap) (sel : Nat → Bool) (f g : Nat → Int) (n id aid mid : Nat) (own ex : Bool) (q : FuncId) (hh : H[id]? = some (.cells (avR (r2 f g) n) own)) (hn : n ≤ 1000) (ha : aid < H.length) (hm : mid < H.length)
    (hq : ∀ (G : Heap) (i : Nat), i < n → ACalls Try.prog q [.int .i64 i, .agg [.int .i64 (f i), .int .i64 (g i)], .ptr aid 0, .ptr mid 0] (H ++ G) (fun v h' => v = .bool (sel i) ∧ h' = H ++ G)) :
    ACalls Try.prog F.track_pick_api_Span [.slice id 0 n 2 ex, .fn (.func q) [] [.ptr aid 0, .ptr mid 0]] H (fun v h' => v = pV H.length (selF sel n) ∧ h' = pH H (selF sel n)) := by
  refine acalls_of ok_track_pick_api_Span rfl fun hcl => ?_
  unfold ac_track_pick_api_Span
  simp only [argsT, Nat.zero_add, Nat.reduceAdd]
  have hid : id < H.length := (List.getElem?_eq_some_iff.1 hh).1
  repeat (first|(with_reducible first|apply X1|apply X2|apply X3|apply X4|apply X5|apply X6|apply X7|apply X8|apply X9|apply Y1|apply Y2|apply Y3|apply Y4|apply Y5|apply Y6|apply Y7|apply Y8|apply Y9)|((with_reducible apply q_block_other);decide)|((with_reducible first|apply e_end|apply d_end);(simp;exact Red.rfl))|((first|((with_reducible apply O1);rfl)|((with_reducible apply O2);rfl)|((with_reducible apply P1);rfl)|((with_reducible apply P2);rfl)|((with_reducible apply P3);rfl)|((with_reducible apply P4);rfl)|((with_reducible apply P5);rfl));(simp (disch:=omega);exact Red.rfl);exact Red.rfl;(focus (first|(simp;done)|omega|(simp;omega))))|((with_reducible first|apply Z7|apply Z8|apply Z9);(simp (disch:=omega);exact Red.rfl))|((with_reducible first|apply Z1|apply Z2|apply Z3|apply Z4|apply Z5|apply Z6);(simp (disch:=omega);exact Red.rfl))|((with_reducible first|apply W1|apply W2|apply W3);(simp (disch:=omega);exact Red.rfl))|((with_reducible apply P6);rfl;(simp (disch:=omega);exact Red.rfl);exact Red.rfl;(focus (first|(simp [pr];done)|(simp [pr];omega))))|((with_reducible apply P7);rfl;(simp (disch:=omega);exact Red.rfl);exact Red.rfl;(focus (simp [repast, pr, AOp.sem];done))))
  refine e_loop (ι := { k : Nat // k ≤ n })
    (fun k => [(1, .fn (.func q) [] [.ptr aid 0, .ptr mid 0]), (5, pV H.length (selF sel k.1)), (8, .slice id 0 n 2 ex), (9, .int .i64 n), (10, .int .i64 k.1)])
    (fun k => pH H (selF sel k.1)) (fun k => n - k.1) ⟨0, by simp⟩ ?_ ?_
  · exact .inr <| le_id (by simp [hid, ha, hm, selF, pV])
  · rintro ⟨k, hk⟩
    dsimp only
    by_cases hlt : k < n
    · have hlt2 : (k : Int) < n := by omega
      have hx : rd H id (k * 2) 2 = some [.int .i64 (f k), .int .i64 (g k)] := (plain_r2 f g).rd hh hlt
      have hs := selF_succ sel k
      have hl := selF_len sel k
      by_cases hnil : selF sel k = []
      · rw [hnil] at hs ⊢
        simp only [pV, pH, if_true]
        repeat (first|(with_reducible first|apply X1|apply X2|apply X3|apply X4|apply X5|apply X6|apply X7|apply X8|apply X9|apply Y1|apply Y2|apply Y3|apply Y4|apply Y5|apply Y6|apply Y7|apply Y8|apply Y9)|((with_reducible apply q_block_other);decide)|((with_reducible first|apply e_end|apply d_end);(simp;exact Red.rfl))|((first|((with_reducible apply O1);rfl)|((with_reducible apply O2);rfl)|((with_reducible apply P1);rfl)|((with_reducible apply P2);rfl)|((with_reducible apply P3);rfl)|((with_reducible apply P4);rfl)|((with_reducible apply P5);rfl));(simp (disch:=omega) [hlt, hlt2, rd_old _ hid, hx];exact Red.rfl);exact Red.rfl;(focus (first|(simp;done)|omega|(simp;omega))))|((with_reducible first|apply Z7|apply Z8|apply Z9);(simp (disch:=omega) [hlt, hlt2, rd_old _ hid, hx];exact Red.rfl))|((with_reducible first|apply Z1|apply Z2|apply Z3|apply Z4|apply Z5|apply Z6);(simp (disch:=omega) [hlt, hlt2, rd_old _ hid, hx];exact Red.rfl))|((with_reducible first|apply W1|apply W2|apply W3);(simp (disch:=omega) [hlt, hlt2, rd_old _ hid, hx];exact Red.rfl))|((with_reducible apply P6);rfl;(simp (disch:=omega) [hlt, hlt2, rd_old _ hid, hx];exact Red.rfl);exact Red.rfl;(focus (first|(simp [pr];done)|(simp [pr];omega))))|((with_reducible apply P7);rfl;(simp (disch:=omega) [hlt, hlt2, rd_old _ hid, hx];exact Red.rfl);exact Red.rfl;(focus (simp [repast, pr, AOp.sem];done))))
        (with_reducible apply e_callV); (simp; exact Red.rfl); (simp; exact Red.rfl); exact hq _ k hlt
        rintro _ _ ⟨rfl, rfl⟩
        cases hb : sel k with
        | true =>
          rw [hb] at hs
          simp only [if_true, List.nil_append] at hs
          repeat (first|(with_reducible first|apply X1|apply X2|apply X3|apply X4|apply X5|apply X6|apply X7|apply X8|apply X9|apply Y1|apply Y2|apply Y3|apply Y4|apply Y5|apply Y6|apply Y7|apply Y8|apply Y9)|((with_reducible apply q_block_other);decide)|((with_reducible first|apply e_end|apply d_end);(simp;exact Red.rfl))|((first|((with_reducible apply O1);rfl)|((with_reducible apply O2);rfl)|((with_reducible apply P1);rfl)|((with_reducible apply P2);rfl)|((with_reducible apply P3);rfl)|((with_reducible apply P4);rfl)|((with_reducible apply P5);rfl));(simp (disch:=omega);exact Red.rfl);exact Red.rfl;(focus (first|(simp;done)|omega|(simp;omega))))|((with_reducible first|apply Z7|apply Z8|apply Z9);(simp (disch:=omega);exact Red.rfl))|((with_reducible first|apply Z1|apply Z2|apply Z3|apply Z4|apply Z5|apply Z6);(simp (disch:=omega);exact Red.rfl))|((with_reducible first|apply W1|apply W2|apply W3);(simp (disch:=omega);exact Red.rfl))|((with_reducible apply P6);rfl;(simp (disch:=omega);exact Red.rfl);exact Red.rfl;(focus (first|(simp [pr];done)|(simp [pr];omega))))|((with_reducible apply P7);rfl;(simp (disch:=omega);exact Red.rfl);exact Red.rfl;(focus (simp [repast, pr, AOp.sem];done))))
          refine q_again ⟨k + 1, by omega⟩ (by dsimp only; omega) (.inr ?_)
          dsimp only
          rw [hs]
          exact le_plain [2] _ (by simp) rfl (by simp; exact (plainK _).o _) (by simp [sh, hid, ha, hm, AV.ren, renL]; omega)
        | false =>
          rw [hb] at hs
          simp only [Bool.false_eq_true, if_false] at hs
          repeat (first|(with_reducible first|apply X1|apply X2|apply X3|apply X4|apply X5|apply X6|apply X7|apply X8|apply X9|apply Y1|apply Y2|apply Y3|apply Y4|apply Y5|apply Y6|apply Y7|apply Y8|apply Y9)|((with_reducible apply q_block_other);decide)|((with_reducible first|apply e_end|apply d_end);(simp;exact Red.rfl))|((first|((with_reducible apply O1);rfl)|((with_reducible apply O2);rfl)|((with_reducible apply P1);rfl)|((with_reducible apply P2);rfl)|((with_reducible apply P3);rfl)|((with_reducible apply P4);rfl)|((with_reducible apply P5);rfl));(simp (disch:=omega);exact Red.rfl);exact Red.rfl;(focus (first|(simp;done)|omega|(simp;omega))))|((with_reducible first|apply Z7|apply Z8|apply Z9);(simp (disch:=omega);exact Red.rfl))|((with_reducible first|apply Z1|apply Z2|apply Z3|apply Z4|apply Z5|apply Z6);(simp (disch:=omega);exact Red.rfl))|((with_reducible first|apply W1|apply W2|apply W3);(simp (disch:=omega);exact Red.rfl))|((with_reducible apply P6);rfl;(simp (disch:=omega);exact Red.rfl);exact Red.rfl;(focus (first|(simp [pr];done)|(simp [pr];omega))))|((with_reducible apply P7);rfl;(simp (disch:=omega);exact Red.rfl);exact Red.rfl;(focus (simp [repast, pr, AOp.sem];done))))
          refine q_again ⟨k + 1, by omega⟩ (by dsimp only; omega) (.inr ?_)
          dsimp only
          rw [hs]
          exact le_drop (by simp [hid, ha, hm])
      · generalize selF sel k = ks at hs hl hnil
        have pk := plainK ks
        have hlk := avK_length ks
        simp only [pV, pH, hnil, if_false]
        repeat (first|(with_reducible first|apply X1|apply X2|apply X3|apply X4|apply X5|apply X6|apply X7|apply X8|apply X9|apply Y1|apply Y2|apply Y3|apply Y4|apply Y5|apply Y6|apply Y7|apply Y8|apply Y9)|((with_reducible apply q_block_other);decide)|((with_reducible first|apply e_end|apply d_end);(simp;exact Red.rfl))|((first|((with_reducible apply O1);rfl)|((with_reducible apply O2);rfl)|((with_reducible apply P1);rfl)|((with_reducible apply P2);rfl)|((with_reducible apply P3);rfl)|((with_reducible apply P4);rfl)|((with_reducible apply P5);rfl));(simp (disch:=omega) [hlt, hlt2, rd_old _ hid, hx];exact Red.rfl);exact Red.rfl;(focus (first|(simp;done)|omega|(simp;omega))))|((with_reducible first|apply Z7|apply Z8|apply Z9);(simp (disch:=omega) [hlt, hlt2, rd_old _ hid, hx];exact Red.rfl))|((with_reducible first|apply Z1|apply Z2|apply Z3|apply Z4|apply Z5|apply Z6);(simp (disch:=omega) [hlt, hlt2, rd_old _ hid, hx];exact Red.rfl))|((with_reducible first|apply W1|apply W2|apply W3);(simp (disch:=omega) [hlt, hlt2, rd_old _ hid, hx];exact Red.rfl))|((with_reducible apply P6);rfl;(simp (disch:=omega) [hlt, hlt2, rd_old _ hid, hx];exact Red.rfl);exact Red.rfl;(focus (first|(simp [pr];done)|(simp [pr];omega))))|((with_reducible apply P7);rfl;(simp (disch:=omega) [hlt, hlt2, rd_old _ hid, hx];exact Red.rfl);exact Red.rfl;(focus (simp [repast, pr, AOp.sem];done))))
        (with_reducible apply e_callV); (simp; exact Red.rfl); (simp; exact Red.rfl); exact hq _ k hlt
        rintro _ _ ⟨rfl, rfl⟩
        cases hb : sel k with
        | true =>
          rw [hb] at hs
          simp only [if_true] at hs
          repeat (first|(with_reducible first|apply X1|apply X2|apply X3|apply X4|apply X5|apply X6|apply X7|apply X8|apply X9|apply Y1|apply Y2|apply Y3|apply Y4|apply Y5|apply Y6|apply Y7|apply Y8|apply Y9)|((with_reducible apply q_block_other);decide)|((with_reducible first|apply e_end|apply d_end);(simp;exact Red.rfl))|((first|((with_reducible apply O1);rfl)|((with_reducible apply O2);rfl)|((with_reducible apply P1);rfl)|((with_reducible apply P2);rfl)|((with_reducible apply P3);rfl)|((with_reducible apply P4);rfl)|((with_reducible apply P5);rfl));(simp (disch:=omega) [hlk, take_all hlk, pk.scal];exact Red.rfl);exact Red.rfl;(focus (first|(simp;done)|omega|(simp;omega))))|((with_reducible first|apply Z7|apply Z8|apply Z9);(simp (disch:=omega) [hlk, take_all hlk, pk.scal];exact Red.rfl))|((with_reducible first|apply Z1|apply Z2|apply Z3|apply Z4|apply Z5|apply Z6);(simp (disch:=omega) [hlk, take_all hlk, pk.scal];exact Red.rfl))|((with_reducible first|apply W1|apply W2|apply W3);(simp (disch:=omega) [hlk, take_all hlk, pk.scal];exact Red.rfl))|((with_reducible apply P6);rfl;(simp (disch:=omega) [hlk, take_all hlk, pk.scal];exact Red.rfl);exact Red.rfl;(focus (first|(simp [pr];done)|(simp [pr];omega))))|((with_reducible apply P7);rfl;(simp (disch:=omega) [hlk, take_all hlk, pk.scal];exact Red.rfl);exact Red.rfl;(focus (simp [repast, pr, AOp.sem];done))))
          refine q_again ⟨k + 1, by omega⟩ (by dsimp only; omega) (.inr ?_)
          dsimp only
          rw [hs, avK_app]
          have hne : ¬ (ks ++ [k] = []) := by simp
          simp only [pV, pH, hne, if_false]
          exact le_plain [3] _ (by simp) rfl (by simp; exact (plainK _).o _) (by simp [sh, hid, ha, hm, AV.ren, renL]; omega)
        | false =>
          rw [hb] at hs
          simp only [Bool.false_eq_true, if_false] at hs
          repeat (first|(with_reducible first|apply X1|apply X2|apply X3|apply X4|apply X5|apply X6|apply X7|apply X8|apply X9|apply Y1|apply Y2|apply Y3|apply Y4|apply Y5|apply Y6|apply Y7|apply Y8|apply Y9)|((with_reducible apply q_block_other);decide)|((with_reducible first|apply e_end|apply d_end);(simp;exact Red.rfl))|((first|((with_reducible apply O1);rfl)|((with_reducible apply O2);rfl)|((with_reducible apply P1);rfl)|((with_reducible apply P2);rfl)|((with_reducible apply P3);rfl)|((with_reducible apply P4);rfl)|((with_reducible apply P5);rfl));(simp (disch:=omega);exact Red.rfl);exact Red.rfl;(focus (first|(simp;done)|omega|(simp;omega))))|((with_reducible first|apply Z7|apply Z8|apply Z9);(simp (disch:=omega);exact Red.rfl))|((with_reducible first|apply Z1|apply Z2|apply Z3|apply Z4|apply Z5|apply Z6);(simp (disch:=omega);exact Red.rfl))|((with_reducible first|apply W1|apply W2|apply W3);(simp (disch:=omega);exact Red.rfl))|((with_reducible apply P6);rfl;(simp (disch:=omega);exact Red.rfl);exact Red.rfl;(focus (first|(simp [pr];done)|(simp [pr];omega))))|((with_reducible apply P7);rfl;(simp (disch:=omega);exact Red.rfl);exact Red.rfl;(focus (simp [repast, pr, AOp.sem];done))))
          refine q_again ⟨k + 1, by omega⟩ (by dsimp only; omega) (.inr ?_)
          dsimp only
          rw [hs]
          simp only [pV, pH, hnil, if_false]
          exact le_take (G := [_]) (by simp [pk.sc]) (by simp [hid, ha, hm, Red]; omega)
    · have hlt2 : ¬ (k : Int) < n := by omega
      obtain rfl : k = n := by omega
      repeat (first|(with_reducible first|apply X1|apply X2|apply X3|apply X4|apply X5|apply X6|apply X7|apply X8|apply X9|apply Y1|apply Y2|apply Y3|apply Y4|apply Y5|apply Y6|apply Y7|apply Y8|apply Y9)|((with_reducible apply q_block_other);decide)|((with_reducible first|apply e_end|apply d_end);(simp;exact Red.rfl))|((first|((with_reducible apply O1);rfl)|((with_reducible apply O2);rfl)|((with_reducible apply P1);rfl)|((with_reducible apply P2);rfl)|((with_reducible apply P3);rfl)|((with_reducible apply P4);rfl)|((with_reducible apply P5);rfl));(simp (disch:=omega) [hlt, hlt2];exact Red.rfl);exact Red.rfl;(focus (first|(simp;done)|omega|(simp;omega))))|((with_reducible first|apply Z7|apply Z8|apply Z9);(simp (disch:=omega) [hlt, hlt2];exact Red.rfl))|((with_reducible first|apply Z1|apply Z2|apply Z3|apply Z4|apply Z5|apply Z6);(simp (disch:=omega) [hlt, hlt2];exact Red.rfl))|((with_reducible first|apply W1|apply W2|apply W3);(simp (disch:=omega) [hlt, hlt2];exact Red.rfl))|((with_reducible apply P6);rfl;(simp (disch:=omega) [hlt, hlt2];exact Red.rfl);exact Red.rfl;(focus (first|(simp [pr];done)|(simp [pr];omega))))|((with_reducible apply P7);rfl;(simp (disch:=omega) [hlt, hlt2];exact Red.rfl);exact Red.rfl;(focus (simp [repast, pr, AOp.sem];done))))
      exact q_stay (.inr rfl) (by simp; exact Red.rfl) ⟨rfl, rfl⟩

def plSel (l : List Str) (at_ : Int) (i : Nat) : Bool := decide (mLo l i ≤ at_ ∧ (i = l.length ∨ at_ < mHi l (i + 1)))
theorem c_Place1 (H : Heap) (l : List Str) (at_ : Int) (i sid aid mid : Nat) (own ex : Bool) (hh : H[sid]? = some (.cells (avR (r2 (mLo l) (mHi l)) (l.length + 1)) own)) (ha : rd H aid 0 1 = some [.int .i64 at_])
    (hm : rd H mid 0 1 = some [.slice sid 0 (l.length + 1) 2 ex]) (hi : i < l.length + 1) (hn : l.length ≤ 1000) :
    ACalls Try.prog F.track_Place_1 [.int .i64 i, .agg [.int .i64 (mLo l i), .int .i64 (mHi l i)], .ptr aid 0, .ptr mid 0] H (fun v h' => v = .bool (plSel l at_ i) ∧ h' = H) := by
  refine acalls_of ok_track_Place_1 rfl fun hcl => ?_
  unfold ac_track_Place_1
  simp only [argsT, Nat.zero_add, Nat.reduceAdd]
  have hsid : sid < H.length := (List.getElem?_eq_some_iff.1 hh).1
  have haid := rd_lt ha
  have hmid := rd_lt hm
  by_cases h1 : mLo l i ≤ at_
  · by_cases h2 : i = l.length
    · subst h2
      repeat (first|(with_reducible first|apply X1|apply X2|apply X3|apply X4|apply X5|apply X6|apply X7|apply X8|apply X9|apply Y1|apply Y2|apply Y3|apply Y4|apply Y5|apply Y6|apply Y7|apply Y8|apply Y9)|((with_reducible apply q_block_other);decide)|((with_reducible first|apply e_end|apply d_end);(simp;exact Red.rfl))|((first|((with_reducible apply O1);rfl)|((with_reducible apply O2);rfl)|((with_reducible apply P1);rfl)|((with_reducible apply P2);rfl)|((with_reducible apply P3);rfl)|((with_reducible apply P4);rfl)|((with_reducible apply P5);rfl));(simp (disch:=omega) [h1, rd_old _ haid, rd_old _ hmid, ha, hm];exact Red.rfl);exact Red.rfl;(focus (first|(simp;done)|omega|(simp;omega))))|((with_reducible first|apply Z7|apply Z8|apply Z9);(simp (disch:=omega) [h1, rd_old _ haid, rd_old _ hmid, ha, hm];exact Red.rfl))|((with_reducible first|apply Z1|apply Z2|apply Z3|apply Z4|apply Z5|apply Z6);(simp (disch:=omega) [h1, rd_old _ haid, rd_old _ hmid, ha, hm];exact Red.rfl))|((with_reducible first|apply W1|apply W2|apply W3);(simp (disch:=omega) [h1, rd_old _ haid, rd_old _ hmid, ha, hm];exact Red.rfl))|((with_reducible apply P6);rfl;(simp (disch:=omega) [h1, rd_old _ haid, rd_old _ hmid, ha, hm];exact Red.rfl);exact Red.rfl;(focus (first|(simp [pr];done)|(simp [pr];omega))))|((with_reducible apply P7);rfl;(simp (disch:=omega) [h1, rd_old _ haid, rd_old _ hmid, ha, hm];exact Red.rfl);exact Red.rfl;(focus (simp [repast, pr, AOp.sem];done))))
      exact q_drop (.inr rfl) (by simp; exact Red.rfl) (by simp) ⟨by simp [plSel, h1], rfl⟩
    · have h3 : ¬ ((i : Int) + 1 = (l.length : Int) + 1) := by omega
      have h4 : ¬ ((i : Int) = l.length) := by omega
      have h5 : i < l.length := by omega
      have hz : ((i : Int) + 1).toNat = i + 1 := by omega
      have hx : rd H sid ((i + 1) * 2 + 1) 1 = some [.int .i64 (mHi l (i + 1))] := by
        have := rd_sub ((plain_r2 (mLo l) (mHi l)).rd hh (show i + 1 < l.length + 1 by omega)) (show 1 + 1 ≤ 2 by omega)
        simpa [r2] using this
      repeat (first|(with_reducible first|apply X1|apply X2|apply X3|apply X4|apply X5|apply X6|apply X7|apply X8|apply X9|apply Y1|apply Y2|apply Y3|apply Y4|apply Y5|apply Y6|apply Y7|apply Y8|apply Y9)|((with_reducible apply q_block_other);decide)|((with_reducible first|apply e_end|apply d_end);(simp;exact Red.rfl))|((first|((with_reducible apply O1);rfl)|((with_reducible apply O2);rfl)|((with_reducible apply P1);rfl)|((with_reducible apply P2);rfl)|((with_reducible apply P3);rfl)|((with_reducible apply P4);rfl)|((with_reducible apply P5);rfl));(simp (disch:=omega) [h1, h2, h3, h4, h5, hz, rd_old _ haid, rd_old _ hmid, rd_old _ hsid, ha, hm, hx];exact Red.rfl);exact Red.rfl;(focus (first|(simp;done)|omega|(simp;omega))))|((with_reducible first|apply Z7|apply Z8|apply Z9);(simp (disch:=omega) [h1, h2, h3, h4, h5, hz, rd_old _ haid, rd_old _ hmid, rd_old _ hsid, ha, hm, hx];exact Red.rfl))|((with_reducible first|apply Z1|apply Z2|apply Z3|apply Z4|apply Z5|apply Z6);(simp (disch:=omega) [h1, h2, h3, h4, h5, hz, rd_old _ haid, rd_old _ hmid, rd_old _ hsid, ha, hm, hx];exact Red.rfl))|((with_reducible first|apply W1|apply W2|apply W3);(simp (disch:=omega) [h1, h2, h3, h4, h5, hz, rd_old _ haid, rd_old _ hmid, rd_old _ hsid, ha, hm, hx];exact Red.rfl))|((with_reducible apply P6);rfl;(simp (disch:=omega) [h1, h2, h3, h4, h5, hz, rd_old _ haid, rd_old _ hmid, rd_old _ hsid, ha, hm, hx];exact Red.rfl);exact Red.rfl;(focus (first|(simp [pr];done)|(simp [pr];omega))))|((with_reducible apply P7);rfl;(simp (disch:=omega) [h1, h2, h3, h4, h5, hz, rd_old _ haid, rd_old _ hmid, rd_old _ hsid, ha, hm, hx];exact Red.rfl);exact Red.rfl;(focus (simp [repast, pr, AOp.sem];done))))
      exact q_drop (.inr rfl) (by simp; exact Red.rfl) (by simp) ⟨by simp [plSel, h1, h2], rfl⟩
  · repeat (first|(with_reducible first|apply X1|apply X2|apply X3|apply X4|apply X5|apply X6|apply X7|apply X8|apply X9|apply Y1|apply Y2|apply Y3|apply Y4|apply Y5|apply Y6|apply Y7|apply Y8|apply Y9)|((with_reducible apply q_block_other);decide)|((with_reducible first|apply e_end|apply d_end);(simp;exact Red.rfl))|((first|((with_reducible apply O1);rfl)|((with_reducible apply O2);rfl)|((with_reducible apply P1);rfl)|((with_reducible apply P2);rfl)|((with_reducible apply P3);rfl)|((with_reducible apply P4);rfl)|((with_reducible apply P5);rfl));(simp (disch:=omega) [h1, rd_old _ haid, rd_old _ hmid, ha, hm];exact Red.rfl);exact Red.rfl;(focus (first|(simp;done)|omega|(simp;omega))))|((with_reducible first|apply Z7|apply Z8|apply Z9);(simp (disch:=omega) [h1, rd_old _ haid, rd_old _ hmid, ha, hm];exact Red.rfl))|((with_reducible first|apply Z1|apply Z2|apply Z3|apply Z4|apply Z5|apply Z6);(simp (disch:=omega) [h1, rd_old _ haid, rd_old _ hmid, ha, hm];exact Red.rfl))|((with_reducible first|apply W1|apply W2|apply W3);(simp (disch:=omega) [h1, rd_old _ haid, rd_old _ hmid, ha, hm];exact Red.rfl))|((with_reducible apply P6);rfl;(simp (disch:=omega) [h1, rd_old _ haid, rd_old _ hmid, ha, hm];exact Red.rfl);exact Red.rfl;(focus (first|(simp [pr];done)|(simp [pr];omega))))|((with_reducible apply P7);rfl;(simp (disch:=omega) [h1, rd_old _ haid, rd_old _ hmid, ha, hm];exact Red.rfl);exact Red.rfl;(focus (simp [repast, pr, AOp.sem];done))))
    exact q_drop (.inr rfl) (by simp; exact Red.rfl) (by simp) ⟨by simp [plSel, h1], rfl⟩

theorem pl_ne {l : List Str} (hv : validL l) {at_ : Int} (h0 : 0 ≤ at_) : ∃ i, i ≤ l.length ∧ plSel l at_ i = true := by
  have key : ∀ n, n ≤ l.length → (∃ i, i < n ∧ plSel l at_ i = true) ∨ mLo l n ≤ at_ := by
    intro n
    induction n with
    | zero => intro _; exact .inr (by simpa [mLo, sumF] using h0)
    | succ n ih =>
      intro hn
      rcases ih (by omega) with ⟨i, h1, h2⟩ | h
      · exact .inl ⟨i, by omega, h2⟩
      · by_cases h3 : mLo l (n + 1) ≤ at_
        · exact .inr h3
        · have := mark_bd hv hn
          exact .inl ⟨n, by omega, by simp only [plSel, decide_eq_true_eq]; exact ⟨h, .inr (by omega)⟩⟩
  rcases key l.length (Nat.le_refl _) with ⟨i, h1, h2⟩ | h
  · exact ⟨i, by omega, h2⟩
  · exact ⟨l.length, Nat.le_refl _, by simp only [plSel, decide_eq_true_eq]; exact ⟨h, .inl trivial⟩⟩
def plL_ (l : List Str) (at_ : Int) : List Nat := selF (plSel l at_) (l.length + 1)
theorem plL_ne {l : List Str} (hv : validL l) {at_ : Int} (h0 : 0 ≤ at_) : plL_ l at_ ≠ [] := by
  obtain ⟨i, h1, h2⟩ := pl_ne hv h0
  intro h
  have : i ∈ plL_ l at_ := by simp [plL_, selF, h2]; omega
  rw [h] at this; simp at this

theorem c_Place (H : Heap) (l : List Str) (at_ : Int) (id off : Nat) (ex : Bool) (hs : rd H id off (l.length * 9) = some (l.flatMap Str.av)) (hv : validL l) (h0 : 0 ≤ at_) (h1 : at_ ≤ 360000) :
    ACalls Try.prog F.track_Place [.agg [.slice id off l.length 9 ex], .int .i64 at_] H (fun v h' => v = .tuple [.slice H.length 0 (plL_ l at_).length 1 false, .int .i64 0] ∧ h' = H ++ [.cells (avK (plL_ l at_)) true]) := by
  refine acalls_of ok_track_Place rfl fun hcl => ?_
  unfold ac_track_Place
  simp only [argsT, Nat.zero_add, Nat.reduceAdd]
  have hid := rd_lt hs
  have h12 := hv.1
  repeat (first|(with_reducible first|apply X1|apply X2|apply X3|apply X4|apply X5|apply X6|apply X7|apply X8|apply X9|apply Y1|apply Y2|apply Y3|apply Y4|apply Y5|apply Y6|apply Y7|apply Y8|apply Y9)|((with_reducible apply q_block_other);decide)|((with_reducible first|apply e_end|apply d_end);(simp;exact Red.rfl))|((first|((with_reducible apply O1);rfl)|((with_reducible apply O2);rfl)|((with_reducible apply P1);rfl)|((with_reducible apply P2);rfl)|((with_reducible apply P3);rfl)|((with_reducible apply P4);rfl)|((with_reducible apply P5);rfl));(simp (disch:=omega);exact Red.rfl);exact Red.rfl;(focus (first|(simp;done)|omega|(simp;omega))))|((with_reducible first|apply Z7|apply Z8|apply Z9);(simp (disch:=omega);exact Red.rfl))|((with_reducible first|apply Z1|apply Z2|apply Z3|apply Z4|apply Z5|apply Z6);(simp (disch:=omega);exact Red.rfl))|((with_reducible first|apply W1|apply W2|apply W3);(simp (disch:=omega);exact Red.rfl))|((with_reducible apply P6);rfl;(simp (disch:=omega);exact Red.rfl);exact Red.rfl;(focus (first|(simp [pr];done)|(simp [pr];omega))))|((with_reducible apply P7);rfl;(simp (disch:=omega);exact Red.rfl);exact Red.rfl;(focus (simp [repast, pr, AOp.sem];done))))
  (with_reducible apply e_call); (simp; exact Red.rfl); exact c_Check _ l id off ex (by rw [rd_old _ hid]; exact hs) (by omega)
  rintro _ _ ⟨rfl, e, rfl, he⟩
  obtain rfl : e = 0 := by
    rcases he with h | h
    · exact h.2
    · exact absurd hv h.1
  repeat (first|(with_reducible first|apply X1|apply X2|apply X3|apply X4|apply X5|apply X6|apply X7|apply X8|apply X9|apply Y1|apply Y2|apply Y3|apply Y4|apply Y5|apply Y6|apply Y7|apply Y8|apply Y9)|((with_reducible apply q_block_other);decide)|((with_reducible first|apply e_end|apply d_end);(simp;exact Red.rfl))|((first|((with_reducible apply O1);rfl)|((with_reducible apply O2);rfl)|((with_reducible apply P1);rfl)|((with_reducible apply P2);rfl)|((with_reducible apply P3);rfl)|((with_reducible apply P4);rfl)|((with_reducible apply P5);rfl));(simp (disch:=omega);exact Red.rfl);exact Red.rfl;(focus (first|(simp;done)|omega|(simp;omega))))|((with_reducible first|apply Z7|apply Z8|apply Z9);(simp (disch:=omega);exact Red.rfl))|((with_reducible first|apply Z1|apply Z2|apply Z3|apply Z4|apply Z5|apply Z6);(simp (disch:=omega);exact Red.rfl))|((with_reducible first|apply W1|apply W2|apply W3);(simp (disch:=omega);exact Red.rfl))|((with_reducible apply P6);rfl;(simp (disch:=omega);exact Red.rfl);exact Red.rfl;(focus (first|(simp [pr];done)|(simp [pr];omega))))|((with_reducible apply P7);rfl;(simp (disch:=omega);exact Red.rfl);exact Red.rfl;(focus (simp [repast, pr, AOp.sem];done))))
  (with_reducible apply d_call); (simp; exact Red.rfl); exact c_upto _ _; (focus (first | (simp; done) | (simp; omega)))
  repeat (first|(with_reducible first|apply X1|apply X2|apply X3|apply X4|apply X5|apply X6|apply X7|apply X8|apply X9|apply Y1|apply Y2|apply Y3|apply Y4|apply Y5|apply Y6|apply Y7|apply Y8|apply Y9)|((with_reducible apply q_block_other);decide)|((with_reducible first|apply e_end|apply d_end);(simp;exact Red.rfl))|((first|((with_reducible apply O1);rfl)|((with_reducible apply O2);rfl)|((with_reducible apply P1);rfl)|((with_reducible apply P2);rfl)|((with_reducible apply P3);rfl)|((with_reducible apply P4);rfl)|((with_reducible apply P5);rfl));(simp (disch:=omega);exact Red.rfl);exact Red.rfl;(focus (first|(simp;done)|omega|(simp;omega))))|((with_reducible first|apply Z7|apply Z8|apply Z9);(simp (disch:=omega);exact Red.rfl))|((with_reducible first|apply Z1|apply Z2|apply Z3|apply Z4|apply Z5|apply Z6);(simp (disch:=omega);exact Red.rfl))|((with_reducible first|apply W1|apply W2|apply W3);(simp (disch:=omega);exact Red.rfl))|((with_reducible apply P6);rfl;(simp (disch:=omega);exact Red.rfl);exact Red.rfl;(focus (first|(simp [pr];done)|(simp [pr];omega))))|((with_reducible apply P7);rfl;(simp (disch:=omega);exact Red.rfl);exact Red.rfl;(focus (simp [repast, pr, AOp.sem];done))))
  (with_reducible apply d_call); (simp; exact Red.rfl); exact c_within _ 0 360000 [at_] (H.length + 2) 0 true (by simp) (by simp); (focus (first | (simp; done) | (simp; omega)))
  repeat (first|(with_reducible first|apply X1|apply X2|apply X3|apply X4|apply X5|apply X6|apply X7|apply X8|apply X9|apply Y1|apply Y2|apply Y3|apply Y4|apply Y5|apply Y6|apply Y7|apply Y8|apply Y9)|((with_reducible apply q_block_other);decide)|((with_reducible first|apply e_end|apply d_end);(simp;exact Red.rfl))|((first|((with_reducible apply O1);rfl)|((with_reducible apply O2);rfl)|((with_reducible apply P1);rfl)|((with_reducible apply P2);rfl)|((with_reducible apply P3);rfl)|((with_reducible apply P4);rfl)|((with_reducible apply P5);rfl));(simp (disch:=omega) [h0, h1];exact Red.rfl);exact Red.rfl;(focus (first|(simp;done)|omega|(simp;omega))))|((with_reducible first|apply Z7|apply Z8|apply Z9);(simp (disch:=omega) [h0, h1];exact Red.rfl))|((with_reducible first|apply Z1|apply Z2|apply Z3|apply Z4|apply Z5|apply Z6);(simp (disch:=omega) [h0, h1];exact Red.rfl))|((with_reducible first|apply W1|apply W2|apply W3);(simp (disch:=omega) [h0, h1];exact Red.rfl))|((with_reducible apply P6);rfl;(simp (disch:=omega) [h0, h1];exact Red.rfl);exact Red.rfl;(focus (first|(simp [pr];done)|(simp [pr];omega))))|((with_reducible apply P7);rfl;(simp (disch:=omega) [h0, h1];exact Red.rfl);exact Red.rfl;(focus (simp [repast, pr, AOp.sem];done))))
  (with_reducible apply e_call); (simp; exact Red.rfl); exact c_places _ l id off ex (by rw [rd_old _ hid]; simpa using hs) hv
  rintro _ _ ⟨rfl, rfl⟩
  repeat (first|(with_reducible first|apply X1|apply X2|apply X3|apply X4|apply X5|apply X6|apply X7|apply X8|apply X9|apply Y1|apply Y2|apply Y3|apply Y4|apply Y5|apply Y6|apply Y7|apply Y8|apply Y9)|((with_reducible apply q_block_other);decide)|((with_reducible first|apply e_end|apply d_end);(simp;exact Red.rfl))|((first|((with_reducible apply O1);rfl)|((with_reducible apply O2);rfl)|((with_reducible apply P1);rfl)|((with_reducible apply P2);rfl)|((with_reducible apply P3);rfl)|((with_reducible apply P4);rfl)|((with_reducible apply P5);rfl));(simp (disch:=omega);exact Red.rfl);exact Red.rfl;(focus (first|(simp;done)|omega|(simp;omega))))|((with_reducible first|apply Z7|apply Z8|apply Z9);(simp (disch:=omega);exact Red.rfl))|((with_reducible first|apply Z1|apply Z2|apply Z3|apply Z4|apply Z5|apply Z6);(simp (disch:=omega);exact Red.rfl))|((with_reducible first|apply W1|apply W2|apply W3);(simp (disch:=omega);exact Red.rfl))|((with_reducible apply P6);rfl;(simp (disch:=omega);exact Red.rfl);exact Red.rfl;(focus (first|(simp [pr];done)|(simp [pr];omega))))|((with_reducible apply P7);rfl;(simp (disch:=omega);exact Red.rfl);exact Red.rfl;(focus (simp [repast, pr, AOp.sem];done))))
  (with_reducible apply e_call); (simp; exact Red.rfl); exact c_pickSpan _ (plSel l at_) (mLo l) (mHi l) (l.length + 1) (H.length + 3) (H.length + 1) (H.length + 4) true _ F.track_Place_1 (by simp) (by omega) (by simp) (by simp) (fun G i hi => c_Place1 _ l at_ i (H.length + 3) (H.length + 1) (H.length + 4) true false (by simp) (by simp) (by simp) hi (by omega))
  have hne := plL_ne hv h0
  have e : selF (plSel l at_) (l.length + 1) = plL_ l at_ := rfl
  rw [e]
  simp only [pV, pH, hne, if_false]
  rintro _ _ ⟨rfl, rfl⟩
  repeat (first|(with_reducible first|apply X1|apply X2|apply X3|apply X4|apply X5|apply X6|apply X7|apply X8|apply X9|apply Y1|apply Y2|apply Y3|apply Y4|apply Y5|apply Y6|apply Y7|apply Y8|apply Y9)|((with_reducible apply q_block_other);decide)|((with_reducible first|apply e_end|apply d_end);(simp;exact Red.rfl))|((first|((with_reducible apply O1);rfl)|((with_reducible apply O2);rfl)|((with_reducible apply P1);rfl)|((with_reducible apply P2);rfl)|((with_reducible apply P3);rfl)|((with_reducible apply P4);rfl)|((with_reducible apply P5);rfl));(simp (disch:=omega);exact Red.rfl);exact Red.rfl;(focus (first|(simp;done)|omega|(simp;omega))))|((with_reducible first|apply Z7|apply Z8|apply Z9);(simp (disch:=omega);exact Red.rfl))|((with_reducible first|apply Z1|apply Z2|apply Z3|apply Z4|apply Z5|apply Z6);(simp (disch:=omega);exact Red.rfl))|((with_reducible first|apply W1|apply W2|apply W3);(simp (disch:=omega);exact Red.rfl))|((with_reducible apply P6);rfl;(simp (disch:=omega);exact Red.rfl);exact Red.rfl;(focus (first|(simp [pr];done)|(simp [pr];omega))))|((with_reducible apply P7);rfl;(simp (disch:=omega);exact Red.rfl);exact Red.rfl;(focus (simp [repast, pr, AOp.sem];done))))
  exact q_post (v' := .tuple [.slice H.length 0 (plL_ l at_).length 1 false, .int .i64 0]) (.inr rfl) (by simp; exact Red.rfl) (le_plain [5] _ (by simp) rfl (by simp; exact (plainK _).o _) (by simp [sh, AV.ren, renL])) ⟨rfl, rfl⟩
end Go.Proofs
