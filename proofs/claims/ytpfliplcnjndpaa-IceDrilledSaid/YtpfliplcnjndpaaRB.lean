/- Several texts as one. -/
import Derived.Test.YtpfliplcnjndpaaRA
import Derived.Test.YtpfliplcnjndpaaDD
import Derived.Test.YtpfliplcnjndpaaAcI0
import Derived.Test.YtpfliplcnjndpaaAcI1
import Derived.Test.YtpfliplcnjndpaaAcI2
/- Ice: as many sleds as it bears. -/
namespace Go.Proofs
open Go.Abs
attribute [local simp] AOp.den AOpd.ev lk cellsOf rd_new rd_new0 rd_zero rd_succ wr_new wr_new0 wr_zero wr_succ splice fillA binA scal sliceCells List.length_append argsT AV.sc scL AObj.sc resV getAll AR.get AOp.slots opdSlots opdsSlots partSlots eqAt at_new0 at_new set_new0 set_new wrap64
set_option linter.unusedSimpArgs false
set_option linter.unusedVariables false
def hrSet (h : Hr) (r : Int) : Hr := ⟨h.m1, h.m2, r, h.crew, h.cold⟩
/-- A cover with another number of sleds in an hour. -/
def Cv.withR (c : Cv) (k : Nat) (r : Int) : Cv := { c with hs := (List.range c.hs.length).map fun j => if j = k then hrSet (c.h j) r else c.h j }
theorem c_CloneH (H : Heap) (c : Cv) (id off : Nat) (ex : Bool) (hs : rd H id off (c.hs.length * 5) = some (c.hs.flatMap Hr.av)) (hn : c.hs.length ≤ 1000) (h1 : 1 ≤ c.hs.length) :
    ACalls Try.prog F.slices_Clone_api_Hour_api_Hour [.slice id off c.hs.length 5 ex] H (fun v h' => v = .slice H.length 0 c.hs.length 5 false ∧ h' = H ++ [.cells (c.hs.flatMap Hr.av) true]) := by
  refine acalls_of ok_slices_Clone_api_Hour_api_Hour rfl fun hcl => ?_
  unfold ac_slices_Clone_api_Hour_api_Hour
  simp only [argsT, Nat.zero_add, Nat.reduceAdd]
  have hid := rd_lt hs
  have pl := (plain_hr c).plain c.hs.length
  rw [← flat_hr] at pl
  have hle : c.hs.length * 40 ≤ 140737488355328 := by omega
  have hne : ¬ c.hs.length = 0 := by omega
  have hne2 : ¬ c.hs = [] := by intro h; rw [h] at h1; simp at h1
  repeat (first|(with_reducible first|apply X1|apply X2|apply X3|apply X5|apply X8)|((with_reducible apply e_end);(simp;exact Red.rfl))|((with_reducible apply O1);rfl;(simp (disch:=omega) [AOp.fx, eqvA, rd_old _ hid, hs, pl.scal, hle, hne, hne2];exact Red.rfl);exact Red.rfl;(focus (first|(simp;done)|omega|(simp;omega))))|((with_reducible apply W3);(simp (disch:=omega) [AOp.fx, eqvA, rd_old _ hid, hs, pl.scal, hle, hne, hne2];exact Red.rfl)))
  exact q_post (v' := .slice H.length 0 c.hs.length 5 false) (.inr rfl) (by simp; exact Red.rfl) (le_plain [1] _ (by simp) rfl (by simp; exact pl.o _) (by simp [sh, AV.ren])) ⟨rfl, rfl⟩
/-- Whether nothing is too thin in an hour with some sleds, in the worst truth. -/
def goodR (c : Cv) (L : Nat → List Int) (k : Nat) (r : Int) : Prop := thL (c.withR k r) (endT true (c.withR k r)) (inP L) k c.bs.length = []
def mostE (c : Cv) (L : Nat → List Int) (k : Nat) (n e : Int) : Prop :=
  (e = 0 ∧ (0 ≤ n ∧ n ≤ 60) ∧ goodR c L k n ∧ ∀ r : Int, n < r → r ≤ 60 → ¬ goodR c L k r) ∨ (e = 6 ∧ n = 0 ∧ ∀ r : Int, 0 ≤ r → r ≤ 60 → ¬ goodR c L k r)
def mostG (l : List Str) (c : Cv) (n : Nat) (L : Nat → List Int) (h : Int) (m e : Int) : Prop :=
  (plE l c n L e ∧ e ≠ 0 ∧ m = 0) ∨ (validL l ∧ c.ok l.length ∧ (n = c.hs.length ∧ okPl c L) ∧ ¬ (0 ≤ h ∧ h < c.hs.length) ∧ e = 2 ∧ m = 0) ∨
  (validL l ∧ c.ok l.length ∧ (n = c.hs.length ∧ okPl c L) ∧ (0 ≤ h ∧ h < c.hs.length) ∧ mostE c L h.toNat m e)
end Go.Proofs
/- Contracts: where a place may be. -/
namespace Go.Proofs
open Go.Abs
attribute [local simp] AOp.den AOpd.ev lk cellsOf rd_new rd_new0 rd_zero rd_succ wr_new wr_new0 wr_zero wr_succ splice fillA binA scal sliceCells List.length_append argsT AV.sc scL AObj.sc resV getAll AR.get AOp.slots opdSlots opdsSlots partSlots eqAt at_new0 at_new set_new0 set_new wrap64
set_option linter.unusedSimpArgs false
set_option linter.unusedVariables false
def avK (xs : List Nat) : List AV := xs.map fun k : Nat => .int .i64 (k : Int)
theorem avK_length (xs : List Nat) : (avK xs).length = xs.length := by simp [avK]
theorem avK_app (xs : List Nat) (k : Nat) : avK xs ++ [.int .i64 (k : Int)] = avK (xs ++ [k]) := by simp [avK]
theorem plain_one (x : Int) : Plain [.int .i64 x] := ⟨rfl, fun _ => rfl, fun _ => rfl⟩
theorem plainK : ∀ xs : List Nat, Plain (avK xs)
  | [] => Plain.nil
  | a :: r => (plain_one a).app (plainK r)
def pV (n : Nat) (xs : List Nat) : AV := if xs = [] then .nilslice else .slice n 0 xs.length 1 false
def pH (H : Heap) (xs : List Nat) : Heap := if xs = [] then H else H ++ [.cells (avK xs) true]
def selF (sel : Nat → Bool) (n : Nat) : List Nat := (List.range n).filter sel
theorem selF_succ (sel : Nat → Bool) (n : Nat) : selF sel (n + 1) = if sel n = true then selF sel n ++ [n] else selF sel n := by
  simp only [selF, List.range_succ, List.filter_append, List.filter_cons, List.filter_nil]
  split <;> simp
theorem selF_len (sel : Nat → Bool) (n : Nat) : (selF sel n).length ≤ n := by
  have := List.length_filter_le sel (List.range n)
  simpa [selF] using this

theorem c_pickSpan (H : Heap) (sel : Nat → Bool) (f g : Nat → Int) (n id aid mid : Nat) (own ex : Bool) (q : FuncId) (hh : H[id]? = some (.cells (avR (r2 f g) n) own)) (hn : n ≤ 1000) (ha : aid < H.length) (hm : mid < H.length)
    (hq : ∀ (G : Heap) (i : Nat), i < n → ACalls Try.prog q [.int .i64 i, .agg [.int .i64 (f i), .int .i64 (g i)], .ptr aid 0, .ptr mid 0] (H ++ G) (fun v h' => v = .bool (sel i) ∧ h' = H ++ G)) :
    ACalls Try.prog F.track_pick_api_Span [.slice id 0 n 2 ex, .fn (.func q) [] [.ptr aid 0, .ptr mid 0]] H (fun v h' => v = pV H.length (selF sel n) ∧ h' = pH H (selF sel n)) := by
  refine acalls_of ok_track_pick_api_Span rfl fun hcl => ?_
  unfold ac_track_pick_api_Span
  simp only [argsT, Nat.zero_add, Nat.reduceAdd]
  have hid : id < H.length := (List.getElem?_eq_some_iff.1 hh).1
  repeat (first|(with_reducible first|apply X1|apply X2|apply X6|apply X8)|((with_reducible apply e_end);(simp;exact Red.rfl))|((with_reducible apply O1);rfl;(simp (disch:=omega);exact Red.rfl);exact Red.rfl;(focus (first|(simp;done)|omega|(simp;omega)))))
  refine e_loop (ι := { k : Nat // k ≤ n })
    (fun k => [(1, .fn (.func q) [] [.ptr aid 0, .ptr mid 0]), (5, pV H.length (selF sel k.1)), (8, .slice id 0 n 2 ex), (9, .int .i64 n), (10, .int .i64 k.1)])
    (fun k => pH H (selF sel k.1)) (fun k => n - k.1) ⟨0, by simp⟩ ?_ ?_
  · exact .inr <| le_id (by simp [hid, ha, hm, selF, pV])
  · rintro ⟨k, hk⟩
    dsimp only
    by_cases hlt : k < n
    · have hlt2 : (k : Int) < n := by omega
      have hx : rd H id (k * 2) 2 = some [.int .i64 (f k), .int .i64 (g k)] := (plain_r2 f g).rd hh hlt
      have hs := selF_succ sel k
      have hl := selF_len sel k
      by_cases hnil : selF sel k = []
      · rw [hnil] at hs ⊢
        simp only [pV, pH, if_true]
        repeat (first|(with_reducible first|apply X1|apply X2|apply X5|apply X6|apply X8)|((with_reducible apply e_end);(simp;exact Red.rfl))|((first|((with_reducible apply O1);rfl)|((with_reducible apply O2);rfl));(simp (disch:=omega) [hlt, hlt2, rd_old _ hid, hx];exact Red.rfl);exact Red.rfl;(focus (first|(simp;done)|omega|(simp;omega))))|((with_reducible apply Z9);(simp (disch:=omega) [hlt, hlt2, rd_old _ hid, hx];exact Red.rfl)))
        (with_reducible apply e_callV); (simp; exact Red.rfl); (simp; exact Red.rfl); exact hq _ k hlt
        rintro _ _ ⟨rfl, rfl⟩
        cases hb : sel k with
        | true =>
          rw [hb] at hs
          simp only [if_true, List.nil_append] at hs
          repeat (first|(with_reducible first|apply X2|apply X8|apply Y2)|((with_reducible apply e_end);(simp;exact Red.rfl))|((with_reducible apply O1);rfl;(simp (disch:=omega);exact Red.rfl);exact Red.rfl;(focus (first|(simp;done)|omega|(simp;omega))))|((with_reducible apply Z9);(simp (disch:=omega);exact Red.rfl)))
          refine q_again ⟨k + 1, by omega⟩ (by dsimp only; omega) (.inr ?_)
          dsimp only
          rw [hs]
          exact le_plain [2] _ (by simp) rfl (by simp; exact (plainK _).o _) (by simp [sh, hid, ha, hm, AV.ren, renL]; omega)
        | false =>
          rw [hb] at hs
          simp only [Bool.false_eq_true, if_false] at hs
          repeat (first|(with_reducible first|apply X2|apply X5|apply X8|apply Y2)|((with_reducible apply e_end);(simp;exact Red.rfl))|((with_reducible apply O1);rfl;(simp (disch:=omega);exact Red.rfl);exact Red.rfl;(focus (first|(simp;done)|omega|(simp;omega))))|((with_reducible apply W3);(simp (disch:=omega);exact Red.rfl)))
          refine q_again ⟨k + 1, by omega⟩ (by dsimp only; omega) (.inr ?_)
          dsimp only
          rw [hs]
          exact le_drop (by simp [hid, ha, hm])
      · generalize selF sel k = ks at hs hl hnil
        have pk := plainK ks
        have hlk := avK_length ks
        simp only [pV, pH, hnil, if_false]
        repeat (first|(with_reducible first|apply X1|apply X2|apply X5|apply X6|apply X8)|((with_reducible apply e_end);(simp;exact Red.rfl))|((first|((with_reducible apply O1);rfl)|((with_reducible apply O2);rfl));(simp (disch:=omega) [hlt, hlt2, rd_old _ hid, hx];exact Red.rfl);exact Red.rfl;(focus (first|(simp;done)|omega|(simp;omega))))|((with_reducible apply Z9);(simp (disch:=omega) [hlt, hlt2, rd_old _ hid, hx];exact Red.rfl)))
        (with_reducible apply e_callV); (simp; exact Red.rfl); (simp; exact Red.rfl); exact hq _ k hlt
        rintro _ _ ⟨rfl, rfl⟩
        cases hb : sel k with
        | true =>
          rw [hb] at hs
          simp only [if_true] at hs
          repeat (first|(with_reducible first|apply X2|apply X8|apply Y2)|((with_reducible apply e_end);(simp;exact Red.rfl))|((with_reducible apply O1);rfl;(simp (disch:=omega) [hlk, take_all hlk, pk.scal];exact Red.rfl);exact Red.rfl;(focus (first|(simp;done)|omega|(simp;omega))))|((with_reducible apply Z9);(simp (disch:=omega) [hlk, take_all hlk, pk.scal];exact Red.rfl)))
          refine q_again ⟨k + 1, by omega⟩ (by dsimp only; omega) (.inr ?_)
          dsimp only
          rw [hs, avK_app]
          have hne : ¬ (ks ++ [k] = []) := by simp
          simp only [pV, pH, hne, if_false]
          exact le_plain [3] _ (by simp) rfl (by simp; exact (plainK _).o _) (by simp [sh, hid, ha, hm, AV.ren, renL]; omega)
        | false =>
          rw [hb] at hs
          simp only [Bool.false_eq_true, if_false] at hs
          repeat (first|(with_reducible first|apply X2|apply X5|apply X8|apply Y2)|((with_reducible apply e_end);(simp;exact Red.rfl))|((with_reducible apply O1);rfl;(simp (disch:=omega);exact Red.rfl);exact Red.rfl;(focus (first|(simp;done)|omega|(simp;omega))))|((with_reducible apply W3);(simp (disch:=omega);exact Red.rfl)))
          refine q_again ⟨k + 1, by omega⟩ (by dsimp only; omega) (.inr ?_)
          dsimp only
          rw [hs]
          simp only [pV, pH, hnil, if_false]
          exact le_take (G := [_]) (by simp [pk.sc]) (by simp [hid, ha, hm, Red]; omega)
    · have hlt2 : ¬ (k : Int) < n := by omega
      obtain rfl : k = n := by omega
      repeat (first|(with_reducible first|apply X1|apply X2|apply X3|apply X4|apply X8|apply Y1|apply Y4|apply Y6)|((with_reducible apply e_end);(simp;exact Red.rfl))|((with_reducible apply O1);rfl;(simp (disch:=omega) [hlt, hlt2];exact Red.rfl);exact Red.rfl;(focus (first|(simp;done)|omega|(simp;omega))))|((with_reducible apply W3);(simp (disch:=omega) [hlt, hlt2];exact Red.rfl)))
      exact q_stay (.inr rfl) (by simp; exact Red.rfl) ⟨rfl, rfl⟩

def plSel (l : List Str) (at_ : Int) (i : Nat) : Bool := decide (mLo l i ≤ at_ ∧ (i = l.length ∨ at_ < mHi l (i + 1)))
theorem c_Place1 (H : Heap) (l : List Str) (at_ : Int) (i sid aid mid : Nat) (own ex : Bool) (hh : H[sid]? = some (.cells (avR (r2 (mLo l) (mHi l)) (l.length + 1)) own)) (ha : rd H aid 0 1 = some [.int .i64 at_])
    (hm : rd H mid 0 1 = some [.slice sid 0 (l.length + 1) 2 ex]) (hi : i < l.length + 1) (hn : l.length ≤ 1000) :
    ACalls Try.prog F.track_Place_1 [.int .i64 i, .agg [.int .i64 (mLo l i), .int .i64 (mHi l i)], .ptr aid 0, .ptr mid 0] H (fun v h' => v = .bool (plSel l at_ i) ∧ h' = H) := by
  refine acalls_of ok_track_Place_1 rfl fun hcl => ?_
  unfold ac_track_Place_1
  simp only [argsT, Nat.zero_add, Nat.reduceAdd]
  have hsid : sid < H.length := (List.getElem?_eq_some_iff.1 hh).1
  have haid := rd_lt ha
  have hmid := rd_lt hm
  by_cases h1 : mLo l i ≤ at_
  · by_cases h2 : i = l.length
    · subst h2
      repeat (first|(with_reducible first|apply X1|apply X2|apply X3|apply X8|apply Y9)|((with_reducible first|apply e_end|apply d_end);(simp;exact Red.rfl))|((first|((with_reducible apply O1);rfl)|((with_reducible apply P1);rfl)|((with_reducible apply P2);rfl));(simp (disch:=omega) [h1, rd_old _ haid, rd_old _ hmid, ha, hm];exact Red.rfl);exact Red.rfl;(focus (first|(simp;done)|omega|(simp;omega))))|((with_reducible apply Z8);(simp (disch:=omega) [h1, rd_old _ haid, rd_old _ hmid, ha, hm];exact Red.rfl))|((with_reducible apply Z6);(simp (disch:=omega) [h1, rd_old _ haid, rd_old _ hmid, ha, hm];exact Red.rfl)))
      exact q_drop (.inr rfl) (by simp; exact Red.rfl) (by simp) ⟨by simp [plSel, h1], rfl⟩
    · have h3 : ¬ ((i : Int) + 1 = (l.length : Int) + 1) := by omega
      have h4 : ¬ ((i : Int) = l.length) := by omega
      have h5 : i < l.length := by omega
      have hz : ((i : Int) + 1).toNat = i + 1 := by omega
      have hx : rd H sid ((i + 1) * 2 + 1) 1 = some [.int .i64 (mHi l (i + 1))] := by
        have := rd_sub ((plain_r2 (mLo l) (mHi l)).rd hh (show i + 1 < l.length + 1 by omega)) (show 1 + 1 ≤ 2 by omega)
        simpa [r2] using this
      repeat (first|(with_reducible first|apply X1|apply X2|apply X3|apply X8|apply Y9)|((with_reducible first|apply e_end|apply d_end);(simp;exact Red.rfl))|((first|((with_reducible apply O1);rfl)|((with_reducible apply P1);rfl)|((with_reducible apply P2);rfl));(simp (disch:=omega) [h1, h2, h3, h4, h5, hz, rd_old _ haid, rd_old _ hmid, rd_old _ hsid, ha, hm, hx];exact Red.rfl);exact Red.rfl;(focus (first|(simp;done)|omega|(simp;omega))))|((with_reducible apply Z8);(simp (disch:=omega) [h1, h2, h3, h4, h5, hz, rd_old _ haid, rd_old _ hmid, rd_old _ hsid, ha, hm, hx];exact Red.rfl)))
      exact q_drop (.inr rfl) (by simp; exact Red.rfl) (by simp) ⟨by simp [plSel, h1, h2], rfl⟩
  · repeat (first|(with_reducible first|apply X1|apply X2|apply X3|apply X8|apply Y9)|((with_reducible first|apply e_end|apply d_end);(simp;exact Red.rfl))|((first|((with_reducible apply O1);rfl)|((with_reducible apply P1);rfl)|((with_reducible apply P2);rfl));(simp (disch:=omega) [h1, rd_old _ haid, rd_old _ hmid, ha, hm];exact Red.rfl);exact Red.rfl;(focus (first|(simp;done)|omega|(simp;omega))))|((with_reducible apply Z5);(simp (disch:=omega) [h1, rd_old _ haid, rd_old _ hmid, ha, hm];exact Red.rfl))|((with_reducible apply W2);(simp (disch:=omega) [h1, rd_old _ haid, rd_old _ hmid, ha, hm];exact Red.rfl)))
    exact q_drop (.inr rfl) (by simp; exact Red.rfl) (by simp) ⟨by simp [plSel, h1], rfl⟩

theorem pl_ne {l : List Str} (hv : validL l) {at_ : Int} (h0 : 0 ≤ at_) : ∃ i, i ≤ l.length ∧ plSel l at_ i = true := by
  have key : ∀ n, n ≤ l.length → (∃ i, i < n ∧ plSel l at_ i = true) ∨ mLo l n ≤ at_ := by
    intro n
    induction n with
    | zero => intro _; exact .inr (by simpa [mLo, sumF] using h0)
    | succ n ih =>
      intro hn
      rcases ih (by omega) with ⟨i, h1, h2⟩ | h
      · exact .inl ⟨i, by omega, h2⟩
      · by_cases h3 : mLo l (n + 1) ≤ at_
        · exact .inr h3
        · have := mark_bd hv hn
          exact .inl ⟨n, by omega, by simp only [plSel, decide_eq_true_eq]; exact ⟨h, .inr (by omega)⟩⟩
  rcases key l.length (Nat.le_refl _) with ⟨i, h1, h2⟩ | h
  · exact ⟨i, by omega, h2⟩
  · exact ⟨l.length, Nat.le_refl _, by simp only [plSel, decide_eq_true_eq]; exact ⟨h, .inl trivial⟩⟩
def plL_ (l : List Str) (at_ : Int) : List Nat := selF (plSel l at_) (l.length + 1)
theorem plL_ne {l : List Str} (hv : validL l) {at_ : Int} (h0 : 0 ≤ at_) : plL_ l at_ ≠ [] := by
  obtain ⟨i, h1, h2⟩ := pl_ne hv h0
  intro h
  have : i ∈ plL_ l at_ := by simp [plL_, selF, h2]; omega
  rw [h] at this; simp at this

theorem c_Place (H : Heap) (l : List Str) (at_ : Int) (id off : Nat) (ex : Bool) (hs : rd H id off (l.length * 9) = some (l.flatMap Str.av)) (hv : validL l) (h0 : 0 ≤ at_) (h1 : at_ ≤ 360000) :
    ACalls Try.prog F.track_Place [.agg [.slice id off l.length 9 ex], .int .i64 at_] H (fun v h' => v = .tuple [.slice H.length 0 (plL_ l at_).length 1 false, .int .i64 0] ∧ h' = H ++ [.cells (avK (plL_ l at_)) true]) := by
  refine acalls_of ok_track_Place rfl fun hcl => ?_
  unfold ac_track_Place
  simp only [argsT, Nat.zero_add, Nat.reduceAdd]
  have hid := rd_lt hs
  have h12 := hv.1
  repeat (first|(with_reducible first|apply X1|apply X2|apply X8)|((with_reducible apply e_end);(simp;exact Red.rfl))|((with_reducible apply O1);rfl;(simp (disch:=omega);exact Red.rfl);exact Red.rfl;(focus (first|(simp;done)|omega|(simp;omega)))))
  (with_reducible apply e_call); (simp; exact Red.rfl); exact c_Check _ l id off ex (by rw [rd_old _ hid]; exact hs) (by omega)
  rintro _ _ ⟨rfl, e, rfl, he⟩
  obtain rfl : e = 0 := by
    rcases he with h | h
    · exact h.2
    · exact absurd hv h.1
  repeat (first|(with_reducible first|apply X1|apply X2|apply X5|apply X8|apply Y9)|((with_reducible apply e_end);(simp;exact Red.rfl))|((with_reducible apply O1);rfl;(simp (disch:=omega);exact Red.rfl);exact Red.rfl;(focus (first|(simp;done)|omega|(simp;omega))))|((with_reducible apply W3);(simp (disch:=omega);exact Red.rfl)))
  (with_reducible apply d_call); (simp; exact Red.rfl); exact c_upto _ _; (focus (first | (simp; done) | (simp; omega)))
  repeat (first|((with_reducible apply P3);rfl;(simp (disch:=omega);exact Red.rfl);exact Red.rfl;(focus (first|(simp;done)|omega|(simp;omega))))|((with_reducible apply P6);rfl;(simp (disch:=omega);exact Red.rfl);exact Red.rfl;(focus (first|(simp [pr];done)|(simp [pr];omega)))))
  (with_reducible apply d_call); (simp; exact Red.rfl); exact c_within _ 0 360000 [at_] (H.length + 2) 0 true (by simp) (by simp); (focus (first | (simp; done) | (simp; omega)))
  repeat (first|(with_reducible first|apply X1|apply X2|apply X5|apply X8)|((with_reducible apply d_end);(simp;exact Red.rfl))|((first|((with_reducible apply O1);rfl)|((with_reducible apply P1);rfl));(simp (disch:=omega) [h0, h1];exact Red.rfl);exact Red.rfl;(focus (first|(simp;done)|omega|(simp;omega))))|((with_reducible apply W3);(simp (disch:=omega) [h0, h1];exact Red.rfl)))
  (with_reducible apply e_call); (simp; exact Red.rfl); exact c_places _ l id off ex (by rw [rd_old _ hid]; simpa using hs) hv
  rintro _ _ ⟨rfl, rfl⟩
  repeat (first|(with_reducible first|apply X1|apply X2|apply X8)|((with_reducible apply e_end);(simp;exact Red.rfl))|((first|((with_reducible apply O1);rfl)|((with_reducible apply O2);rfl));(simp (disch:=omega);exact Red.rfl);exact Red.rfl;(focus (first|(simp;done)|omega|(simp;omega)))))
  (with_reducible apply e_call); (simp; exact Red.rfl); exact c_pickSpan _ (plSel l at_) (mLo l) (mHi l) (l.length + 1) (H.length + 3) (H.length + 1) (H.length + 4) true _ F.track_Place_1 (by simp) (by omega) (by simp) (by simp) (fun G i hi => c_Place1 _ l at_ i (H.length + 3) (H.length + 1) (H.length + 4) true false (by simp) (by simp) (by simp) hi (by omega))
  have hne := plL_ne hv h0
  have e : selF (plSel l at_) (l.length + 1) = plL_ l at_ := rfl
  rw [e]
  simp only [pV, pH, hne, if_false]
  rintro _ _ ⟨rfl, rfl⟩
  repeat (first|(with_reducible first|apply X3|apply X8)|((with_reducible apply e_end);(simp;exact Red.rfl))|((with_reducible apply O1);rfl;(simp (disch:=omega);exact Red.rfl);exact Red.rfl;(focus (first|(simp;done)|omega|(simp;omega)))))
  exact q_post (v' := .tuple [.slice H.length 0 (plL_ l at_).length 1 false, .int .i64 0]) (.inr rfl) (by simp; exact Red.rfl) (le_plain [5] _ (by simp) rfl (by simp; exact (plainK _).o _) (by simp [sh, AV.ren, renL])) ⟨rfl, rfl⟩
end Go.Proofs
/- Ice: drilled ice. -/
namespace Go.Proofs
open Go.Abs
attribute [local simp] AOp.den AOpd.ev lk cellsOf rd_new rd_new0 rd_zero rd_succ wr_new wr_new0 wr_zero wr_succ splice fillA binA scal sliceCells List.length_append argsT AV.sc scL AObj.sc resV getAll AR.get AOp.slots opdSlots opdsSlots partSlots eqAt at_new0 at_new set_new0 set_new wrap64
set_option linter.unusedSimpArgs false
set_option linter.unusedVariables false
theorem c_CloneB (H : Heap) (c : Cv) (id off : Nat) (ex : Bool) (hs : rd H id off (c.bs.length * 3) = some (c.bs.flatMap Bd.av)) (hn : c.bs.length ≤ 1000) (h1 : 1 ≤ c.bs.length) :
    ACalls Try.prog F.slices_Clone_api_Bed_api_Bed [.slice id off c.bs.length 3 ex] H (fun v h' => v = .slice H.length 0 c.bs.length 3 false ∧ h' = H ++ [.cells (c.bs.flatMap Bd.av) true]) := by
  refine acalls_of ok_slices_Clone_api_Bed_api_Bed rfl fun hcl => ?_
  unfold ac_slices_Clone_api_Bed_api_Bed
  simp only [argsT, Nat.zero_add, Nat.reduceAdd]
  have hid := rd_lt hs
  have pl := (plain_bd c).plain c.bs.length
  rw [← flat_bd] at pl
  have hle : c.bs.length * 24 ≤ 140737488355328 := by omega
  have hne : ¬ c.bs.length = 0 := by omega
  have hne2 : ¬ c.bs = [] := by intro h; rw [h] at h1; simp at h1
  repeat (first|(with_reducible first|apply X1|apply X2|apply X3|apply X5|apply X8)|((with_reducible apply e_end);(simp;exact Red.rfl))|((with_reducible apply O1);rfl;(simp (disch:=omega) [AOp.fx, eqvA, rd_old _ hid, hs, pl.scal, hle, hne, hne2];exact Red.rfl);exact Red.rfl;(focus (first|(simp;done)|omega|(simp;omega))))|((with_reducible apply W3);(simp (disch:=omega) [AOp.fx, eqvA, rd_old _ hid, hs, pl.scal, hle, hne, hne2];exact Red.rfl)))
  exact q_post (v' := .slice H.length 0 c.bs.length 3 false) (.inr rfl) (by simp; exact Red.rfl) (le_plain [1] _ (by simp) rfl (by simp; exact pl.o _) (by simp [sh, AV.ren])) ⟨rfl, rfl⟩
theorem c_CloneT (H : Heap) (l : List Str) (id off : Nat) (ex : Bool) (hs : rd H id off (l.length * 9) = some (l.flatMap Str.av)) (hn : l.length ≤ 1000) (h1 : 1 ≤ l.length) :
    ACalls Try.prog F.slices_Clone_api_Stretch_api_Stretch [.slice id off l.length 9 ex] H (fun v h' => v = .slice H.length 0 l.length 9 false ∧ h' = H ++ [.cells (l.flatMap Str.av) true]) := by
  refine acalls_of ok_slices_Clone_api_Stretch_api_Stretch rfl fun hcl => ?_
  unfold ac_slices_Clone_api_Stretch_api_Stretch
  simp only [argsT, Nat.zero_add, Nat.reduceAdd]
  have hid := rd_lt hs
  have pl := (plain_str l).plain l.length
  rw [← flat_eq] at pl
  have hle : l.length * 72 ≤ 140737488355328 := by omega
  have hne : ¬ l.length = 0 := by omega
  have hne2 : ¬ l = [] := by intro h; rw [h] at h1; simp at h1
  repeat (first|(with_reducible first|apply X1|apply X2|apply X3|apply X5|apply X8)|((with_reducible apply e_end);(simp;exact Red.rfl))|((with_reducible apply O1);rfl;(simp (disch:=omega) [AOp.fx, eqvA, rd_old _ hid, hs, pl.scal, hle, hne, hne2];exact Red.rfl);exact Red.rfl;(focus (first|(simp;done)|omega|(simp;omega))))|((with_reducible apply W3);(simp (disch:=omega) [AOp.fx, eqvA, rd_old _ hid, hs, pl.scal, hle, hne, hne2];exact Red.rfl)))
  exact q_post (v' := .slice H.length 0 l.length 9 false) (.inr rfl) (by simp; exact Red.rfl) (le_plain [1] _ (by simp) rfl (by simp; exact pl.o _) (by simp [sh, AV.ren])) ⟨rfl, rfl⟩
/-- A cover whose ice is known to be so thick on a stretch. -/
def Cv.withB (c : Cv) (k : Nat) (lo hi : Int) : Cv := { c with bs := (List.range c.bs.length).map fun j => if j = k then ⟨lo, hi, (c.b j).sun⟩ else c.b j }
theorem withB_len {c : Cv} {k : Nat} {lo hi : Int} : (c.withB k lo hi).bs.length = c.bs.length := by simp [Cv.withB]
theorem withB_b {c : Cv} {k : Nat} {lo hi : Int} {j : Nat} (hj : j < c.bs.length) : (c.withB k lo hi).b j = if j = k then ⟨lo, hi, (c.b j).sun⟩ else c.b j := by
  rw [Cv.b_eq (by rw [withB_len]; exact hj)]
  simp [Cv.withB]
theorem withB_own {c : Cv} {k : Nat} (hk : k < c.bs.length) : c.withB k (c.b k).lo (c.b k).hi = c := by
  have : ((List.range c.bs.length).map fun j => if j = k then (⟨(c.b k).lo, (c.b k).hi, (c.b j).sun⟩ : Bd) else c.b j) = c.bs := by
    refine map_at c.bs _ fun i hi => ?_
    by_cases e : i = k
    · subst e; rw [if_pos rfl, ← Cv.b_eq hi]
    · rw [if_neg e, Cv.b_eq hi]
  simp only [Cv.withB, this]
theorem withB_ok {c : Cv} {n k : Nat} {lo hi : Int} (hc : c.ok n) (h : lo ≤ hi ∧ 0 ≤ lo ∧ hi ≤ 2000) : (c.withB k lo hi).ok n := by
  refine ⟨by rw [withB_len]; exact hc.len, hc.hours, fun i hi => ?_, hc.hok, hc.rul⟩
  rw [withB_len] at hi
  rw [← Cv.b_eq (by rw [withB_len]; exact hi), withB_b hi]
  have := hc.bok i hi
  rw [← Cv.b_eq hi] at this
  split
  · exact ⟨h, this.2⟩
  · exact this
theorem put_bd {c : Cv} {k : Nat} {lo hi lo' hi' : Int} (hk : k < c.bs.length) : splice (avR (bdR (c.withB k lo hi)) c.bs.length) (k * 3) [.int .i64 lo', .int .i64 hi'] = avR (bdR (c.withB k lo' hi')) c.bs.length := by
  have := (plain_bd (c.withB k lo hi)).put (plain_bd (c.withB k lo' hi')) (n := c.bs.length) (i := k) (c := 0) (xs := [.int .i64 lo', .int .i64 hi']) hk (by simp) (by
    simp only [bdR, withB_b hk, if_true, Bd.av, splice]; rfl) (fun j hj hne => by simp only [bdR, withB_b hj, if_neg hne])
  rwa [Nat.add_zero] at this
theorem c_both (H : Heap) (a b x y : Int) : ACalls Try.prog F.span_Both [.agg [.int .i64 a, .int .i64 b], .agg [.int .i64 x, .int .i64 y]] H (fun v h' => v = .agg [.int .i64 (max a x), .int .i64 (min b y)] ∧ h' = H) := by
  refine acalls_of ok_span_Both rfl fun hcl => ?_
  unfold ac_span_Both
  simp only [argsT, Nat.zero_add, Nat.reduceAdd]
  have m1 : (if a < x then x else a) = max a x := by split <;> omega
  have m2 : (if y < b then y else b) = min b y := by split <;> omega
  repeat (first|(with_reducible first|apply X1|apply X2|apply X3|apply X8)|((with_reducible apply e_end);(simp;exact Red.rfl))|((first|((with_reducible apply O1);rfl)|((with_reducible apply O2);rfl));(simp (disch:=omega) [m1, m2];exact Red.rfl);exact Red.rfl;(focus (first|(simp;done)|omega|(simp;omega)))))
  refine q_drop (.inr rfl) (by simp; exact Red.rfl) (by simp) ⟨rfl, rfl⟩
end Go.Proofs
/- Ice: drilling. -/
namespace Go.Proofs
open Go.Abs
attribute [local simp] AOp.den AOpd.ev lk cellsOf rd_new rd_new0 rd_zero rd_succ wr_new wr_new0 wr_zero wr_succ splice fillA binA scal sliceCells List.length_append argsT AV.sc scL AObj.sc resV getAll AR.get AOp.slots opdSlots opdsSlots partSlots eqAt at_new0 at_new set_new0 set_new wrap64
set_option linter.unusedSimpArgs false
set_option linter.unusedVariables false
theorem flatB_len {α : Type} {f : α → List AV} {m : Nat} (hf : ∀ a, (f a).length = m) (l : List α) : (l.flatMap f).length = l.length * m := by
  induction l with
  | nil => simp
  | cons a l ih => rw [List.flatMap_cons, List.length_append, ih, hf, List.length_cons, Nat.add_mul]; omega
/-- Nothing known of a cover. -/
@[simp] def zc : List AV := [.nilslice, .nilslice, .nilslice, .int .i64 0, .int .i64 0, .int .i64 0, .int .i64 0, .int .i64 0, .int .i64 0, .int .i64 0]
def drillE (l : List Str) (c : Cv) (at_ a b : Int) (e : Int) : Prop :=
  (e = 2 ∧ ¬ (0 ≤ a ∧ a ≤ b ∧ b ≤ 2000)) ∨ (e = 6 ∧ (0 ≤ a ∧ a ≤ b ∧ b ≤ 2000) ∧ ¬ ∃ k, k < c.bs.length ∧ plL_ l at_ = [k]) ∨
  (e = 8 ∧ (0 ≤ a ∧ a ≤ b ∧ b ≤ 2000) ∧ ∃ k, k < c.bs.length ∧ plL_ l at_ = [k] ∧ min (c.b k).hi b < max (c.b k).lo a)
set_option maxHeartbeats 2000000 in
theorem c_iDrill (H : Heap) (l : List Str) (c : Cv) (p : Plc) (hp : CvAt H c p) (ht : TrAt H l p) (hv : validL l) (hc : c.ok l.length) (at_ a b : Int) (h0 : 0 ≤ at_) (h1 : at_ ≤ 360000) :
    ACalls Try.prog F.ice_Drill [.agg (c.av p), .int .i64 at_, .agg [.int .i64 a, .int .i64 b]] H (fun v h' => ∃ G, h' = H ++ G ∧
      ((∃ e, v = .tuple [.agg zc, .int .i64 e] ∧ drillE l c at_ a b e) ∨
      (∃ k p2, k < c.bs.length ∧ plL_ l at_ = [k] ∧ (0 ≤ a ∧ a ≤ b ∧ b ≤ 2000) ∧ max (c.b k).lo a ≤ min (c.b k).hi b ∧ v = .tuple [.agg ((c.withB k (max (c.b k).lo a) (min (c.b k).hi b)).av p2), .int .i64 0] ∧ CvAt (H ++ G) (c.withB k (max (c.b k).lo a) (min (c.b k).hi b)) p2 ∧ TrAt (H ++ G) l p2))) := by
  have h12 := hv.1
  have hlen := hc.len
  have h8 := hc.hours
  have k0 := fun G => c_iCheck (H ++ G) l c p (hp.app G) (ht.app G) (by omega) (by omega) (by omega)
  have hp1 := hp.t
  have hp2 := rd_lt hp.b
  have hp3 := rd_lt hp.h
  have hp4 := rd_lt ht.t
  have htn := ht.n
  obtain ⟨b1, hb1⟩ := bof (a ≤ b ∧ 0 ≤ a ∧ b ≤ 2000)
  have hpm : ∀ k, k ∈ plL_ l at_ → k ≤ l.length := fun k hk => by
    simp only [plL_, selF, List.mem_filter, List.mem_range] at hk; omega
  have kb := fun X => c_CloneB (H ++ X) c p.bid p.boff p.bex (by rw [rd_old _ hp2]; exact hp.b) (by omega) (by omega)
  have kh := fun X => c_CloneH (H ++ X) c p.hid p.hoff p.hex (by rw [rd_old _ hp3]; exact hp.h) (by omega) (by omega)
  have kt := fun X => c_CloneT (H ++ X) l p.tid p.toff p.tex (by rw [rd_old _ hp4]; exact ht.t) (by omega) (by omega)
  have hpl := fun X => c_Place (H ++ X) l at_ p.tid p.toff p.tex (by rw [rd_old _ hp4]; exact ht.t) hv h0 h1
  simp only [Cv.av, drillE] at *
  generalize plL_ l at_ = pls at *
  refine acalls_of ok_ice_Drill rfl fun hcl => ?_
  unfold ac_ice_Drill
  simp only [argsT, Nat.zero_add, Nat.reduceAdd]
  repeat (first|(with_reducible first|apply X1|apply X2|apply X8)|((with_reducible apply e_end);(simp;exact Red.rfl))|((with_reducible apply O1);rfl;(simp (disch:=omega);exact Red.rfl);exact Red.rfl;(focus (first|(simp;done)|omega|(simp;omega)))))
  (with_reducible apply e_call); (simp; exact Red.rfl); exact k0 _
  rintro _ _ ⟨rfl, e, rfl, he⟩
  obtain rfl : e = 0 := by
    rcases he with ⟨_, _, rfl⟩ | ⟨a, _⟩ | ⟨_, a, _⟩
    · rfl
    · exact absurd hv a
    · exact absurd hc a
  repeat (first|(with_reducible first|apply X1|apply X2|apply X5|apply X8)|((with_reducible apply e_end);(simp;exact Red.rfl))|((with_reducible apply O1);rfl;(simp (disch:=omega) [htn];exact Red.rfl);exact Red.rfl;(focus (first|(simp;done)|omega|(simp;omega))))|((with_reducible apply W3);(simp (disch:=omega) [htn];exact Red.rfl)))
  (with_reducible apply e_call); (simp; exact Red.rfl); exact hpl _
  rintro _ _ ⟨rfl, rfl⟩
  repeat (first|(with_reducible first|apply X1|apply X8|apply Y9)|((with_reducible apply e_end);(simp;exact Red.rfl))|((first|((with_reducible apply O1);rfl)|((with_reducible apply P1);rfl)|((with_reducible apply P2);rfl));(simp (disch:=omega);exact Red.rfl);exact Red.rfl;(focus (first|(simp;done)|omega|(simp;omega))))|((with_reducible apply Z8);(simp (disch:=omega);exact Red.rfl)))
  (with_reducible apply d_call); (simp; exact Red.rfl); exact c_upto _ _; (focus (first | (simp; done) | (simp; omega)))
  repeat ((with_reducible apply Z8);(simp (disch:=omega);exact Red.rfl))
  (with_reducible apply d_call); (simp; exact Red.rfl); exact c_fits' _ _ _ _ _ hb1; (focus (first | (simp; done) | (simp; omega)))
  cases b1 with
  | false =>
    repeat (first|(with_reducible first|apply X1|apply X2|apply X3|apply X8|apply X9)|((with_reducible first|apply e_end|apply d_end);(simp;exact Red.rfl))|((first|((with_reducible apply O1);rfl)|((with_reducible apply O2);rfl)|((with_reducible apply P1);rfl));(simp (disch:=omega);exact Red.rfl);exact Red.rfl;(focus (first|(simp;done)|omega|(simp;omega))))|((with_reducible first|apply Z8|apply Z9);(simp (disch:=omega);exact Red.rfl)))
    refine q_drop (.inr rfl) (by simp; exact Red.rfl) (by simp) ⟨[], (List.append_nil _).symm, .inl ⟨2, rfl, .inl ⟨rfl, fun h => by have := hb1.2 ⟨h.2.1, h.1, h.2.2⟩; cases this⟩⟩⟩
  | true =>
  have hb1 := hb1.1 rfl
  have hfit : 0 ≤ a ∧ a ≤ b ∧ b ≤ 2000 := ⟨hb1.2.1, hb1.1, hb1.2.2⟩
  by_cases hp1 : pls.length = 1
  rotate_left
  · have hp1' : ¬ (pls.length : Int) = 1 := by omega
    repeat (first|(with_reducible first|apply X1|apply X2|apply X3|apply X5|apply X8|apply X9|apply Y9)|((with_reducible first|apply e_end|apply d_end);(simp;exact Red.rfl))|((first|((with_reducible apply O1);rfl)|((with_reducible apply O2);rfl)|((with_reducible apply P1);rfl));(simp (disch:=omega) [hp1, hp1'];exact Red.rfl);exact Red.rfl;(focus (first|(simp;done)|omega|(simp;omega))))|((with_reducible first|apply Z8|apply Z9);(simp (disch:=omega) [hp1, hp1'];exact Red.rfl))|((with_reducible apply Z6);(simp (disch:=omega) [hp1, hp1'];exact Red.rfl))|((with_reducible apply W3);(simp (disch:=omega) [hp1, hp1'];exact Red.rfl)))
    refine q_drop (.inr rfl) (by simp; exact Red.rfl) (by simp) ⟨[], (List.append_nil _).symm, .inl ⟨6, rfl, .inr (.inl ⟨rfl, hfit, fun ⟨k, _, h⟩ => by rw [h] at hp1; exact hp1 rfl⟩)⟩⟩
  obtain ⟨k, rfl⟩ := List.length_eq_one_iff.1 hp1
  have hk := hpm k (by simp)
  by_cases hkl : k = c.bs.length
  · subst hkl
    repeat (first|(with_reducible first|apply X1|apply X2|apply X3|apply X5|apply X8|apply X9|apply Y9)|((with_reducible first|apply e_end|apply d_end);(simp;exact Red.rfl))|((first|((with_reducible apply O1);rfl)|((with_reducible apply O2);rfl)|((with_reducible apply P1);rfl)|((with_reducible apply P2);rfl));(simp (disch:=omega) [avK];exact Red.rfl);exact Red.rfl;(focus (first|(simp;done)|omega|(simp;omega))))|((with_reducible first|apply Z8|apply Z9);(simp (disch:=omega) [avK];exact Red.rfl))|((with_reducible apply W3);(simp (disch:=omega) [avK];exact Red.rfl)))
    refine q_drop (.inr rfl) (by simp; exact Red.rfl) (by simp) ⟨[], (List.append_nil _).symm, .inl ⟨6, rfl, .inr (.inl ⟨rfl, hfit, fun ⟨k, h1, h⟩ => by rw [List.cons.injEq] at h; omega⟩)⟩⟩
  have hkl2 : k < c.bs.length := by omega
  have hkl3 : ¬ (k : Int) = c.bs.length := by omega
  have hrow : rd H p.bid (p.boff + k * 3) 2 = some [.int .i64 (c.b k).lo, .int .i64 (c.b k).hi] := by
    have := rd_row (f := Bd.av) Bd.av_length hp.b hkl2
    rw [← Cv.b_eq hkl2] at this
    exact rd_sub' this 0 2 (by omega)
  repeat (first|(with_reducible first|apply X1|apply X5|apply X8|apply Y9)|((with_reducible apply d_end);(simp;exact Red.rfl))|((first|((with_reducible apply P1);rfl)|((with_reducible apply P2);rfl));(simp (disch:=omega) [avK, hkl, hkl2, hkl3, rd_old _ hp2, hrow];exact Red.rfl);exact Red.rfl;(focus (first|(simp;done)|omega|(simp;omega))))|((with_reducible apply Z8);(simp (disch:=omega) [avK, hkl, hkl2, hkl3, rd_old _ hp2, hrow];exact Red.rfl))|((with_reducible apply W3);(simp (disch:=omega) [avK, hkl, hkl2, hkl3, rd_old _ hp2, hrow];exact Red.rfl)))
  (with_reducible apply d_call); (simp; exact Red.rfl); exact c_both _ _ _ _ _; (focus (first | (simp; done) | (simp; omega)))
  by_cases hw : min (c.b k).hi b < max (c.b k).lo a
  · repeat (first|(with_reducible first|apply X1|apply X2|apply X3|apply X8|apply X9)|((with_reducible first|apply e_end|apply d_end);(simp;exact Red.rfl))|((first|((with_reducible apply O1);rfl)|((with_reducible apply O2);rfl)|((with_reducible apply P3);rfl)|((with_reducible apply P4);rfl));(simp (disch:=omega) [hw];exact Red.rfl);exact Red.rfl;(focus (first|(simp;done)|omega|(simp;omega))))|((with_reducible apply Z9);(simp (disch:=omega) [hw];exact Red.rfl)))
    refine q_drop (.inr rfl) (by simp; exact Red.rfl) (by simp) ⟨[], (List.append_nil _).symm, .inl ⟨8, rfl, .inr (.inr ⟨rfl, hfit, k, hkl2, rfl, hw⟩)⟩⟩
  · have hput := put_bd (c := c) (k := k) (lo := (c.b k).lo) (hi := (c.b k).hi) (lo' := max (c.b k).lo a) (hi' := min (c.b k).hi b) hkl2
    have hll := (plain_bd c).length c.bs.length
    have le1 : k * 3 + 2 ≤ c.bs.length * 3 := by omega
    rw [withB_own hkl2] at hput
    rw [flat_bd] at kb
    generalize avR (bdR c) c.bs.length = old at *
    repeat (first|(with_reducible first|apply X1|apply X2|apply X5|apply X8)|((with_reducible first|apply e_end|apply d_end);(simp;exact Red.rfl))|((first|((with_reducible apply O1);rfl)|((with_reducible apply P3);rfl)|((with_reducible apply P4);rfl));(simp (disch:=omega) [hw];exact Red.rfl);exact Red.rfl;(focus (first|(simp;done)|omega|(simp;omega))))|((with_reducible apply W3);(simp (disch:=omega) [hw];exact Red.rfl)))
    (with_reducible apply e_call); (simp; exact Red.rfl); exact kt _
    rintro _ _ ⟨rfl, rfl⟩
    repeat (first|(with_reducible first|apply X1|apply X2|apply X8)|((with_reducible apply e_end);(simp;exact Red.rfl))|((first|((with_reducible apply O1);rfl)|((with_reducible apply O2);rfl));(simp (disch:=omega);exact Red.rfl);exact Red.rfl;(focus (first|(simp;done)|omega|(simp;omega)))))
    (with_reducible apply e_call); (simp; exact Red.rfl); exact kb _
    rintro _ _ ⟨rfl, rfl⟩
    repeat (first|(with_reducible first|apply X1|apply X2|apply X8)|((with_reducible apply e_end);(simp;exact Red.rfl))|((first|((with_reducible apply O1);rfl)|((with_reducible apply O2);rfl));(simp (disch:=omega);exact Red.rfl);exact Red.rfl;(focus (first|(simp;done)|omega|(simp;omega)))))
    (with_reducible apply e_call); (simp; exact Red.rfl); exact kh _
    rintro _ _ ⟨rfl, rfl⟩
    repeat (first|(with_reducible first|apply X1|apply X8|apply Y9)|((with_reducible apply e_end);(simp;exact Red.rfl))|((first|((with_reducible apply O1);rfl)|((with_reducible apply O2);rfl)|((with_reducible apply P1);rfl)|((with_reducible apply P2);rfl));(simp (disch:=omega) [avK, hkl, hkl2, hkl3];exact Red.rfl);exact Red.rfl;(focus (first|(simp;done)|omega|(simp;omega)))))
    repeat (first|(with_reducible first|apply X1|apply X2|apply X3|apply X8)|((with_reducible first|apply e_end|apply d_end);(simp;exact Red.rfl))|((first|((with_reducible apply O1);rfl)|((with_reducible apply O2);rfl)|((with_reducible apply P4);rfl));(simp (disch:=omega) [Nat.add_assoc, hll, le1, -splice, hput];exact Red.rfl);exact Red.rfl;(focus (first|(simp;done)|omega|(simp;omega)))))
    refine q_stay (.inr rfl) (by simp; exact Red.rfl) ⟨_, rfl, .inr ⟨k, ⟨H.length + 5, 0, false, l.length, H.length + 6, 0, false, H.length + 7, 0, false⟩, hkl2, rfl, hfit, by omega, by simp only [withB_len]; rfl, ⟨?_, ?_, ?_⟩, ⟨rfl, ?_⟩⟩⟩
    · simp
    · rw [flat_bd, withB_len]
      exact rd_full (b := true) (by simp [at_new, Nat.add_assoc]) ((plain_bd _).length _)
    · exact rd_full (b := true) (by simp [at_new, Nat.add_assoc]; rfl) (flatB_len Hr.av_length c.hs)
    · exact rd_full (b := true) (by simp [at_new, Nat.add_assoc]) (flatB_len Str.av_length l)
end Go.Proofs
/- Ice: drilled ice; the law's contract. -/
namespace Go.Proofs
open Go.Abs
attribute [local simp] AOp.den AOpd.ev lk cellsOf rd_new rd_new0 rd_zero rd_succ wr_new wr_new0 wr_zero wr_succ splice fillA binA scal sliceCells List.length_append argsT AV.sc scL AObj.sc resV getAll AR.get AOp.slots opdSlots opdsSlots partSlots eqAt at_new0 at_new set_new0 set_new wrap64
set_option linter.unusedSimpArgs false
set_option linter.unusedVariables false
theorem thP_worstD {c : Cv} {n : Nat} (hc : c.ok n) (P : Nat → Nat → Bool) (h : thP c (endT true c) P c.hs.length = []) : thP c (endT false c) P c.hs.length = [] := by
  rw [thP_nil] at h ⊢
  intro k s hk hs
  cases e : tooF c (endT false c) P k s
  · rfl
  · have := too_mono hc (worst_le (endT_ok hc false)) P hs hk e
    rw [h k s hk hs] at this; cases this
theorem withB_bd {c : Cv} {k : Nat} {lo hi : Int} (h : (c.b k).lo ≤ lo ∧ lo ≤ hi ∧ hi ≤ (c.b k).hi) {n : Nat} (hc : c.ok n) {j : Nat} (hj : j < c.bs.length) : (c.b j).lo ≤ ((c.withB k lo hi).b j).lo ∧ ((c.withB k lo hi).b j).lo ≤ ((c.withB k lo hi).b j).hi ∧ ((c.withB k lo hi).b j).hi ≤ (c.b j).hi ∧ ((c.withB k lo hi).b j).sun = (c.b j).sun := by
  rw [withB_b hj]
  have hb := hc.bok j hj
  rw [← Cv.b_eq hj] at hb
  simp only [Bd.ok] at hb
  split
  · rename_i e; subst e; exact ⟨h.1, h.2.1, h.2.2, rfl⟩
  · exact ⟨Int.le_refl _, by omega, Int.le_refl _, rfl⟩
theorem withB_loss {c : Cv} {k : Nat} {lo hi : Int} (t : Tn) {s h : Nat} (hs : s < c.bs.length) : lossF (c.withB k lo hi) t s h = lossF c t s h := by
  simp only [lossF, withB_b hs]
  have : (if s = k then (⟨lo, hi, (c.b s).sun⟩ : Bd) else c.b s).sun = (c.b s).sun := by split <;> rfl
  rw [this]; rfl
theorem withB_bef {c : Cv} {k : Nat} {lo hi : Int} (t : Tn) (P : Nat → Nat → Bool) {s : Nat} (hs : s < c.bs.length) : ∀ h, befF (c.withB k lo hi) t P s h = befF c t P s h
  | 0 => rfl
  | h + 1 => by simp only [befF, withB_bef t P hs h, withB_loss t hs]
theorem withB_too {c : Cv} {k : Nat} {lo hi : Int} (t : Tn) (P : Nat → Nat → Bool) {s h : Nat} (hs : s < c.bs.length) : tooF (c.withB k lo hi) t P h s = tooF c t P h s := by
  simp only [tooF, withB_bef t P hs, withB_loss t hs]; rfl
theorem withB_okPl {c : Cv} {k : Nat} {lo hi : Int} {L : Nat → List Int} (h : okPl c L) : okPl (c.withB k lo hi) L := by
  intro j hj
  rw [withB_len]
  exact h j hj
theorem safe_drill {c : Cv} {n k : Nat} {lo hi : Int} (hc : c.ok n) (h : (c.b k).lo ≤ lo ∧ lo ≤ hi ∧ hi ≤ (c.b k).hi) (hk : k < c.bs.length) (L : Nat → List Int) : safeF c L = 1 ∨ safeF (c.withB k lo hi) L = safeF c L := by
  have hbk := hc.bok k hk
  rw [← Cv.b_eq hk] at hbk
  simp only [Bd.ok] at hbk
  have hd : (c.withB k lo hi).ok n := withB_ok hc (by omega)
  have tr : ∀ w, Tn.ok c (endT w (c.withB k lo hi)) := fun w => by
    have h1 := endT_ok hd w
    refine ⟨fun i hi => ?_, h1.melt, h1.wear, h1.layer⟩
    have h2 := h1.thick i (by rw [withB_len]; exact hi)
    have h3 := withB_bd h hc hi
    omega
  by_cases f1 : thP c (endT false c) (inP L) c.hs.length = []
  · by_cases f2 : thP c (endT true c) (inP L) c.hs.length = []
    · have g2 : thP (c.withB k lo hi) (endT true (c.withB k lo hi)) (inP L) (c.withB k lo hi).hs.length = [] := by
        rw [thP_nil] at f2 ⊢
        intro a s ha hs
        rw [withB_len] at hs
        cases e : tooF (c.withB k lo hi) (endT true (c.withB k lo hi)) (inP L) a s
        · rfl
        · rw [withB_too _ _ hs] at e
          have := too_mono hc (worst_le (tr true)) _ hs ha e
          rw [f2 a s ha hs] at this; cases this
      have g1 := thP_worstD hd _ g2
      exact .inr (by simp only [safeF, f1, f2, g1, g2])
    · exact .inl (by simp [safeF, f1, f2])
  · have g1 : ¬ thP (c.withB k lo hi) (endT false (c.withB k lo hi)) (inP L) (c.withB k lo hi).hs.length = [] := by
      intro g
      apply f1
      rw [thP_nil] at g ⊢
      intro a s ha hs
      cases e : tooF c (endT false c) (inP L) a s
      · rfl
      · have := too_mono hc (best_le (tr false)) _ hs ha e
        rw [← withB_too (k := k) (lo := lo) (hi := hi) _ _ hs, g a s ha (by rw [withB_len]; exact hs)] at this; cases this
    exact .inr (by simp [safeF, f1, g1])
theorem mark_sel {l : List Str} {at_ m : Int} {k : Nat} (h1 : mLo l k ≤ m) (h2 : m ≤ at_) (h3 : k = l.length ∨ ∃ m', m' ≤ mHi l (k + 1) ∧ at_ < m') (hk : k ≤ l.length) : k ∈ plL_ l at_ := by
  simp only [plL_, selF, List.mem_filter, List.mem_range, plSel, decide_eq_true_eq]
  refine ⟨by omega, by omega, ?_⟩
  rcases h3 with h | ⟨m', h4, h5⟩
  · exact .inl h
  · exact .inr (by omega)
theorem c_span2 (H : Heap) (a b : Int) : ACalls Try.prog F.law02_span [.int .i64 a, .int .i64 b] H (fun v h' => v = .agg [.int .i64 a, .int .i64 b] ∧ h' = H) := by
  refine acalls_of ok_law02_span rfl fun hcl => ?_
  unfold ac_law02_span
  simp only [argsT, Nat.zero_add, Nat.reduceAdd]
  repeat (first|(with_reducible first|apply X1|apply X2|apply X3|apply X4|apply X5|apply X6|apply X7|apply X8|apply X9|apply Y1|apply Y2|apply Y3|apply Y4|apply Y5|apply Y6|apply Y7|apply Y8|apply Y9)|((with_reducible apply q_block_other);decide)|((with_reducible first|apply e_end|apply d_end);(simp;exact Red.rfl))|((first|((with_reducible apply O1);rfl)|((with_reducible apply O2);rfl)|((with_reducible apply P1);rfl)|((with_reducible apply P2);rfl)|((with_reducible apply P3);rfl)|((with_reducible apply P4);rfl)|((with_reducible apply P5);rfl));(simp (disch:=omega);exact Red.rfl);exact Red.rfl;(focus (first|(simp;done)|omega|(simp;omega))))|((with_reducible first|apply Z7|apply Z8|apply Z9);(simp (disch:=omega);exact Red.rfl))|((with_reducible first|apply Z1|apply Z2|apply Z3|apply Z4|apply Z5|apply Z6);(simp (disch:=omega);exact Red.rfl))|((with_reducible first|apply W1|apply W2|apply W3);(simp (disch:=omega);exact Red.rfl))|((with_reducible apply P6);rfl;(simp (disch:=omega);exact Red.rfl);exact Red.rfl;(focus (first|(simp [pr];done)|(simp [pr];omega))))|((with_reducible apply P7);rfl;(simp (disch:=omega);exact Red.rfl);exact Red.rfl;(focus (simp [repast, pr, AOp.sem];done))))
  refine q_drop (.inr rfl) (by simp; exact Red.rfl) (by simp) ⟨rfl, rfl⟩
end Go.Proofs
/- Ice: comparisons of covers. -/
namespace Go.Proofs
open Go.Abs
attribute [local simp] AOp.den AOpd.ev lk cellsOf rd_new rd_new0 rd_zero rd_succ wr_new wr_new0 wr_zero wr_succ splice fillA binA scal sliceCells List.length_append argsT AV.sc scL AObj.sc resV getAll AR.get AOp.slots opdSlots opdsSlots partSlots eqAt at_new0 at_new set_new0 set_new wrap64
set_option linter.unusedSimpArgs false
set_option linter.unusedVariables false
theorem c_r1SameD (H : Heap) (l : List Str) (id off id' off' : Nat) (ex ex' : Bool) (ha : rd H id off (l.length * 9) = some (l.flatMap Str.av)) (hb : rd H id' off' (l.length * 9) = some (l.flatMap Str.av)) (hn : l.length ≤ 1000) :
    ACalls Try.prog F.ref01_Same [.agg [.slice id off l.length 9 ex], .agg [.slice id' off' l.length 9 ex']] H (fun v h' => v = .bool true ∧ h' = H) := by
  have hai := rd_lt ha
  have hbi := rd_lt hb
  refine acalls_of ok_ref01_Same rfl fun hcl => ?_
  unfold ac_ref01_Same
  simp only [argsT, Nat.zero_add, Nat.reduceAdd]
  repeat (first|(with_reducible first|apply X1|apply X2|apply X5|apply X6|apply X8)|((with_reducible apply e_end);(simp;exact Red.rfl))|((with_reducible apply O1);rfl;(simp (disch:=omega);exact Red.rfl);exact Red.rfl;(focus (first|(simp;done)|omega|(simp;omega))))|((with_reducible apply W3);(simp (disch:=omega);exact Red.rfl)))
  refine e_loop (ι := { i : Nat // i ≤ l.length }) (fun i => [(2, .ptr H.length 0), (3, .ptr (H.length + 1) 0), (5, .int .i64 i.1)]) (fun _ => H ++ [.cells [.slice id off l.length 9 ex] true, .cells [.slice id' off' l.length 9 ex'] true]) (fun i => l.length - i.1) ⟨0, by simp⟩ ?_ ?_
  · exact .inl rfl
  · rintro ⟨i, hi⟩
    dsimp only
    by_cases hlt : i < l.length
    · have hlt2 : (i : Int) < l.length := by omega
      have hx := rd_row Str.av_length ha hlt
      have hy := rd_row Str.av_length hb hlt
      generalize l[i] = s at hx hy
      obtain ⟨a1, a2, a3, a4, a5, a6, a7, a8, a9⟩ := s
      simp only [Str.av] at hx hy
      repeat (first|(with_reducible first|apply X1|apply X2|apply X5|apply X6|apply X8|apply Y2|apply Y9)|((with_reducible first|apply e_end|apply d_end);(simp;exact Red.rfl))|((first|((with_reducible apply O1);rfl)|((with_reducible apply P1);rfl)|((with_reducible apply P2);rfl));(simp (disch:=omega) [hlt, hlt2, rd_old _ hai, rd_old _ hbi, hx, hy];exact Red.rfl);exact Red.rfl;(focus (first|(simp;done)|omega|(simp;omega))))|((with_reducible apply Z9);(simp (disch:=omega) [hlt, hlt2, rd_old _ hai, rd_old _ hbi, hx, hy];exact Red.rfl))|((with_reducible apply W3);(simp (disch:=omega) [hlt, hlt2, rd_old _ hai, rd_old _ hbi, hx, hy];exact Red.rfl)))
      exact q_again ⟨i + 1, hlt⟩ (by dsimp only; omega) (.inl (by simp))
    · have hlt2 : ¬ (i : Int) < l.length := by omega
      repeat (first|(with_reducible first|apply X1|apply X2|apply X3|apply X4|apply X8|apply Y1|apply Y4|apply Y6)|((with_reducible apply e_end);(simp;exact Red.rfl))|((with_reducible apply O1);rfl;(simp (disch:=omega) [hlt2];exact Red.rfl);exact Red.rfl;(focus (first|(simp;done)|omega|(simp;omega))))|((with_reducible apply W3);(simp (disch:=omega) [hlt2];exact Red.rfl)))
      refine q_drop (.inr rfl) (by simp; exact Red.rfl) (by simp) ⟨rfl, rfl⟩
theorem c_r2SameD (H : Heap) (l : List Str) (c : Cv) (p q : Plc) (hp : CvAt H c p) (hq : CvAt H c q) (hpt : TrAt H l p) (hqt : TrAt H l q) (hn : l.length ≤ 1000) (hn1 : c.bs.length ≤ 1000) (hn2 : c.hs.length ≤ 1000) :
    ACalls Try.prog F.ref02_Same [.agg (c.av p), .agg (c.av q)] H (fun v h' => v = .bool true ∧ h' = H) := by
  have hp1 := hp.t
  have hp2 := rd_lt hp.b
  have hp3 := rd_lt hp.h
  have hq1 := hq.t
  have hq2 := rd_lt hq.b
  have hq3 := rd_lt hq.h
  have htp := hpt.n
  have htq := hqt.n
  have k0 := fun G => c_r1SameD (H ++ G) l p.tid p.toff q.tid q.toff p.tex q.tex (by rw [rd_old _ hp1]; exact hpt.t) (by rw [rd_old _ hq1]; exact hqt.t) hn
  simp only [Cv.av, htp, htq] at *
  refine acalls_of ok_ref02_Same rfl fun hcl => ?_
  unfold ac_ref02_Same
  simp only [argsT, Nat.zero_add, Nat.reduceAdd]
  repeat (first|(with_reducible first|apply X1|apply X2|apply X8)|((with_reducible apply e_end);(simp;exact Red.rfl))|((with_reducible apply O1);rfl;(simp (disch:=omega);exact Red.rfl);exact Red.rfl;(focus (first|(simp;done)|omega|(simp;omega)))))
  (with_reducible apply e_call); (simp; exact Red.rfl); exact k0 _
  rintro _ _ ⟨rfl, rfl⟩
  repeat (first|(with_reducible first|apply X1|apply X2|apply X5|apply X6|apply X8)|((with_reducible apply e_end);(simp;exact Red.rfl))|((with_reducible apply O1);rfl;(simp (disch:=omega);exact Red.rfl);exact Red.rfl;(focus (first|(simp;done)|omega|(simp;omega))))|((with_reducible apply Z7);(simp (disch:=omega);exact Red.rfl))|((with_reducible apply W3);(simp (disch:=omega);exact Red.rfl)))
  refine e_loop (ι := { i : Nat // i ≤ c.bs.length }) (fun i => [(2, .ptr H.length 0), (3, .ptr (H.length + 1) 0), (5, .int .i64 i.1)]) (fun _ => H ++ [.cells [.slice p.tid p.toff l.length 9 p.tex, .slice p.bid p.boff c.bs.length 3 p.bex, .slice p.hid p.hoff c.hs.length 5 p.hex, .int .i64 c.w1, .int .i64 c.w2, .int .i64 c.y1, .int .i64 c.y2, .int .i64 c.rate, .int .i64 c.lim, .int .i64 c.base] true, .cells [.slice q.tid q.toff l.length 9 q.tex, .slice q.bid q.boff c.bs.length 3 q.bex, .slice q.hid q.hoff c.hs.length 5 q.hex, .int .i64 c.w1, .int .i64 c.w2, .int .i64 c.y1, .int .i64 c.y2, .int .i64 c.rate, .int .i64 c.lim, .int .i64 c.base] true]) (fun i => c.bs.length - i.1) ⟨0, by simp⟩ ?_ ?_
  · exact .inl rfl
  · rintro ⟨i, hi⟩
    dsimp only
    by_cases hlt : i < c.bs.length
    · have hlt2 : (i : Int) < c.bs.length := by omega
      have hx := hp.bed hlt
      have hy := hq.bed hlt
      generalize c.b i = s at hx hy
      obtain ⟨a1, a2, a3⟩ := s
      simp only [Bd.av] at hx hy
      repeat (first|(with_reducible first|apply X1|apply X2|apply X5|apply X6|apply X8|apply Y2|apply Y9)|((with_reducible first|apply e_end|apply d_end);(simp;exact Red.rfl))|((first|((with_reducible apply O1);rfl)|((with_reducible apply P1);rfl)|((with_reducible apply P2);rfl));(simp (disch:=omega) [hlt, hlt2, rd_old _ hp2, rd_old _ hq2, hx, hy];exact Red.rfl);exact Red.rfl;(focus (first|(simp;done)|omega|(simp;omega))))|((with_reducible apply Z9);(simp (disch:=omega) [hlt, hlt2, rd_old _ hp2, rd_old _ hq2, hx, hy];exact Red.rfl))|((with_reducible apply W3);(simp (disch:=omega) [hlt, hlt2, rd_old _ hp2, rd_old _ hq2, hx, hy];exact Red.rfl)))
      exact q_again ⟨i + 1, hlt⟩ (by dsimp only; omega) (.inl (by simp))
    · have hlt2 : ¬ (i : Int) < c.bs.length := by omega
      repeat (first|(with_reducible first|apply X1|apply X2|apply X4|apply X6|apply X8|apply Y1|apply Y4|apply Y6)|((with_reducible apply e_end);(simp;exact Red.rfl))|((with_reducible apply O1);rfl;(simp (disch:=omega) [hlt2];exact Red.rfl);exact Red.rfl;(focus (first|(simp;done)|omega|(simp;omega))))|((with_reducible apply W3);(simp (disch:=omega) [hlt2];exact Red.rfl)))
      refine e_loop (ι := { i : Nat // i ≤ c.hs.length }) (fun i => [(2, .ptr H.length 0), (3, .ptr (H.length + 1) 0), (6, .int .i64 i.1)]) (fun _ => H ++ [.cells [.slice p.tid p.toff l.length 9 p.tex, .slice p.bid p.boff c.bs.length 3 p.bex, .slice p.hid p.hoff c.hs.length 5 p.hex, .int .i64 c.w1, .int .i64 c.w2, .int .i64 c.y1, .int .i64 c.y2, .int .i64 c.rate, .int .i64 c.lim, .int .i64 c.base] true, .cells [.slice q.tid q.toff l.length 9 q.tex, .slice q.bid q.boff c.bs.length 3 q.bex, .slice q.hid q.hoff c.hs.length 5 q.hex, .int .i64 c.w1, .int .i64 c.w2, .int .i64 c.y1, .int .i64 c.y2, .int .i64 c.rate, .int .i64 c.lim, .int .i64 c.base] true]) (fun i => c.hs.length - i.1) ⟨0, by simp⟩ ?_ ?_
      · exact .inl rfl
      · rintro ⟨i, hi⟩
        dsimp only
        by_cases hlt : i < c.hs.length
        · have hlt2 : (i : Int) < c.hs.length := by omega
          have hx := hp.hour hlt
          have hy := hq.hour hlt
          generalize c.h i = s at hx hy
          obtain ⟨a1, a2, a3, a4, a5⟩ := s
          simp only [Hr.av] at hx hy
          repeat (first|(with_reducible first|apply X1|apply X2|apply X5|apply X6|apply X8|apply Y2|apply Y9)|((with_reducible first|apply e_end|apply d_end);(simp;exact Red.rfl))|((first|((with_reducible apply O1);rfl)|((with_reducible apply P1);rfl)|((with_reducible apply P2);rfl));(simp (disch:=omega) [hlt, hlt2, rd_old _ hp3, rd_old _ hq3, hx, hy];exact Red.rfl);exact Red.rfl;(focus (first|(simp;done)|omega|(simp;omega))))|((with_reducible apply Z9);(simp (disch:=omega) [hlt, hlt2, rd_old _ hp3, rd_old _ hq3, hx, hy];exact Red.rfl))|((with_reducible apply W3);(simp (disch:=omega) [hlt, hlt2, rd_old _ hp3, rd_old _ hq3, hx, hy];exact Red.rfl)))
          exact q_again ⟨i + 1, hlt⟩ (by dsimp only; omega) (.inl (by simp))
        · have hlt2 : ¬ (i : Int) < c.hs.length := by omega
          repeat (first|(with_reducible first|apply X1|apply X2|apply X3|apply X4|apply X8|apply Y1|apply Y4|apply Y6)|((with_reducible apply e_end);(simp;exact Red.rfl))|((with_reducible apply O1);rfl;(simp (disch:=omega) [hlt2];exact Red.rfl);exact Red.rfl;(focus (first|(simp;done)|omega|(simp;omega))))|((with_reducible apply W3);(simp (disch:=omega) [hlt2];exact Red.rfl)))
          refine q_drop (.inr rfl) (by simp; exact Red.rfl) (by simp) ⟨rfl, rfl⟩
end Go.Proofs
