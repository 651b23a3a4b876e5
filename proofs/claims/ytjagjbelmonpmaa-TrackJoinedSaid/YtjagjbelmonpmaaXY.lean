/- Several texts as one. -/
import Derived.Test.YtjagjbelmonpmaaDD
import Derived.Test.YtjagjbelmonpmaaEE
/- Lists that are appended to, in a memory of any form. -/
namespace Go.Proofs
open Go.Abs
attribute [local simp] AOp.den AOpd.ev lk cellsOf rd_new rd_new0 rd_zero rd_succ wr_new wr_new0 wr_zero wr_succ splice fillA binA scal sliceCells List.length_append argsT AV.sc scL AObj.sc resV getAll AR.get AOp.slots opdSlots opdsSlots partSlots eqAt at_new0 at_new set_new0 set_new wrap64
set_option linter.unusedSimpArgs false
set_option linter.unusedVariables false
/-- A list in memory that may be nil. -/
def LAt (h : Heap) (sz : Nat) (v : AV) (cs : List AV) (n : Nat) : Prop :=
  cs.length = n * sz ∧ ((v = .nilslice ∧ n = 0) ∨ ∃ id ex, v = .slice id 0 n sz ex ∧ h[id]? = some (.cells cs true))
def isId : AV → Nat → Prop
  | .slice id _ _ _ _, i => id = i
  | _, _ => False
theorem LAt.nil (h : Heap) (sz : Nat) : LAt h sz .nilslice [] 0 := ⟨by simp, .inl ⟨rfl, rfl⟩⟩
theorem LAt.of {h : Heap} {id : Nat} {cs : List AV} (hh : h[id]? = some (.cells cs true)) {n sz : Nat} (hc : cs.length = n * sz) (ex : Bool) : LAt h sz (.slice id 0 n sz ex) cs n := ⟨hc, .inr ⟨id, ex, rfl, hh⟩⟩
theorem LAt.cells {h : Heap} {sz : Nat} {v : AV} {cs : List AV} {n : Nat} (hl : LAt h sz v cs n) : sliceCells h sz v = some (n, cs) := by
  obtain ⟨hc, ⟨rfl, rfl⟩ | ⟨id, ex, rfl, hh⟩⟩ := hl
  · obtain rfl : cs = [] := by simpa using hc
    rfl
  · simp only [sliceCells, if_true, rd, hh]
    rw [if_pos (by omega)]
    simp only [List.drop_zero, Option.map_some, ← hc, List.take_length]
theorem LAt.len {h : Heap} {sz : Nat} {v : AV} {cs : List AV} {n : Nat} (hl : LAt h sz v cs n) {ev : AOpd → AV} {x : AOpd} (hx : ev x = v) : (AOp.len x).den ev h = .ok True (.int .i64 n) h := by
  obtain ⟨hc, ⟨rfl, rfl⟩ | ⟨id, ex, rfl, hh⟩⟩ := hl <;> simp [AOp.den, hx]
theorem LAt.keep {h h' : Heap} {sz : Nat} {v : AV} {cs : List AV} {n : Nat} (hl : LAt h sz v cs n) (hk : ∀ i, isId v i → h'[i]? = h[i]?) : LAt h' sz v cs n := by
  obtain ⟨hc, ⟨rfl, rfl⟩ | ⟨id, ex, rfl, hh⟩⟩ := hl
  · exact ⟨hc, .inl ⟨rfl, rfl⟩⟩
  · exact ⟨hc, .inr ⟨id, ex, rfl, by rw [hk id rfl]; exact hh⟩⟩
theorem LAt.app {h : Heap} {sz : Nat} {v : AV} {cs : List AV} {n : Nat} (hl : LAt h sz v cs n) (G : Heap) : LAt (h ++ G) sz v cs n := by
  refine hl.keep fun i hi => ?_
  obtain ⟨hc, ⟨rfl, rfl⟩ | ⟨id, ex, rfl, hh⟩⟩ := hl
  · exact hi.elim
  · obtain rfl : id = i := hi
    rw [List.getElem?_append_left (List.getElem?_eq_some_iff.1 hh).1]
theorem LAt.lt {h : Heap} {sz : Nat} {v : AV} {cs : List AV} {n : Nat} (hl : LAt h sz v cs n) {i : Nat} (hi : isId v i) : i < h.length := by
  obtain ⟨hc, ⟨rfl, rfl⟩ | ⟨id, ex, rfl, hh⟩⟩ := hl
  · exact hi.elim
  · obtain rfl : id = i := hi
    exact (List.getElem?_eq_some_iff.1 hh).1
theorem LAt.sc {h : Heap} {sz : Nat} {v : AV} {cs : List AV} {n : Nat} (hl : LAt h sz v cs n) {m : Nat} (hm : h.length ≤ m) : v.sc m = true := by
  obtain ⟨hc, ⟨rfl, rfl⟩ | ⟨id, ex, rfl, hh⟩⟩ := hl
  · rfl
  · have := (List.getElem?_eq_some_iff.1 hh).1
    simp [AV.sc]; omega
/-- A list that is read, which may be nil. -/
def RAt (h : Heap) (sz : Nat) (v : AV) (cs : List AV) (n : Nat) : Prop :=
  cs.length = n * sz ∧ ((v = .nilslice ∧ n = 0) ∨ ∃ id off ex, v = .slice id off n sz ex ∧ rd h id off (n * sz) = some cs)
theorem LAt.r {h : Heap} {sz : Nat} {v : AV} {cs : List AV} {n : Nat} (hl : LAt h sz v cs n) : RAt h sz v cs n := by
  obtain ⟨hc, ⟨rfl, rfl⟩ | ⟨id, ex, rfl, hh⟩⟩ := hl
  · exact ⟨hc, .inl ⟨rfl, rfl⟩⟩
  · refine ⟨hc, .inr ⟨id, 0, ex, rfl, ?_⟩⟩
    simp only [rd, hh]
    rw [if_pos (by omega)]
    simp only [List.drop_zero, ← hc, List.take_length]
theorem RAt.len {h : Heap} {sz : Nat} {v : AV} {cs : List AV} {n : Nat} (hl : RAt h sz v cs n) (h0 : Heap) {ev : AOpd → AV} {x : AOpd} (hx : ev x = v) : (AOp.len x).den ev h0 = .ok True (.int .i64 n) h0 := by
  obtain ⟨hc, ⟨rfl, rfl⟩ | ⟨id, off, ex, rfl, hh⟩⟩ := hl <;> simp [AOp.den, hx]
theorem RAt.sc {h : Heap} {sz : Nat} {v : AV} {cs : List AV} {n : Nat} (hl : RAt h sz v cs n) {m : Nat} (hm : h.length ≤ m) : v.sc m = true := by
  obtain ⟨hc, ⟨rfl, rfl⟩ | ⟨id, off, ex, rfl, hh⟩⟩ := hl
  · rfl
  · have := rd_lt hh
    simp [AV.sc]; omega
theorem RAt.keep {h h' : Heap} {sz : Nat} {v : AV} {cs : List AV} {n : Nat} (hl : RAt h sz v cs n) (hk : ∀ i, isId v i → h'[i]? = h[i]?) : RAt h' sz v cs n := by
  obtain ⟨hc, ⟨rfl, rfl⟩ | ⟨id, off, ex, rfl, hh⟩⟩ := hl
  · exact ⟨hc, .inl ⟨rfl, rfl⟩⟩
  · refine ⟨hc, .inr ⟨id, off, ex, rfl, ?_⟩⟩
    have := hk id rfl
    unfold rd at hh ⊢
    rw [this]; exact hh
theorem RAt.lt {h : Heap} {sz : Nat} {v : AV} {cs : List AV} {n : Nat} (hl : RAt h sz v cs n) {i : Nat} (hi : isId v i) : i < h.length := by
  obtain ⟨hc, ⟨rfl, rfl⟩ | ⟨id, off, ex, rfl, hh⟩⟩ := hl
  · exact hi.elim
  · obtain rfl : id = i := hi
    exact rd_lt hh
theorem RAt.app {h : Heap} {sz : Nat} {v : AV} {cs : List AV} {n : Nat} (hl : RAt h sz v cs n) (G : Heap) : RAt (h ++ G) sz v cs n :=
  hl.keep fun i hi => by rw [List.getElem?_append_left (hl.lt hi)]
theorem RAt.cells {h : Heap} {sz : Nat} {v : AV} {cs : List AV} {n : Nat} (hl : RAt h sz v cs n) : sliceCells h sz v = some (n, cs) := by
  obtain ⟨hc, ⟨rfl, rfl⟩ | ⟨id, off, ex, rfl, hh⟩⟩ := hl
  · obtain rfl : cs = [] := by simpa using hc
    rfl
  · simp only [sliceCells, if_true, hh, Option.map_some]
theorem RAt.slice {h : Heap} {sz : Nat} {v : AV} {cs : List AV} {n : Nat} (hl : RAt h sz v cs n) (h0 : 0 < n) : ∃ id off ex, v = .slice id off n sz ex ∧ rd h id off (n * sz) = some cs := by
  obtain ⟨hc, ⟨rfl, rfl⟩ | h⟩ := hl
  · omega
  · exact h
def iv (l : List Int) : List AV := l.map (.int .i64)
/-- A list of numbers that is read. -/
def IAt (h : Heap) (v : AV) (l : List Int) : Prop := RAt h 1 v (iv l) l.length
theorem IAt.get {h : Heap} {v : AV} {l : List Int} (hl : IAt h v l) {i : Nat} (hi : i < l.length) : ∃ id off ex, v = .slice id off l.length 1 ex ∧ rd h id (off + i) 1 = some [.int .i64 l[i]] ∧ id < h.length := by
  obtain ⟨id, off, ex, rfl, hh⟩ := RAt.slice hl (by omega)
  refine ⟨id, off, ex, rfl, ?_, rd_lt hh⟩
  have e := rd_at hh hi
  rw [Nat.mul_one] at e
  rw [e]
  simp only [Nat.mul_one, iv, Option.some.injEq]
  apply List.ext_getElem
  · simp; omega
  · intro k h1 h2
    simp only [List.length_cons, List.length_nil] at h2
    obtain rfl : k = 0 := by omega
    simp
/-- A plan that is read: its lists. -/
def PlAt (h : Heap) (v : AV) (n : Nat) (L : Nat → List Int) : Prop :=
  ∃ (pid off : Nat) (ex : Bool) (vs : Nat → AV), v = .slice pid off n 1 ex ∧ rd h pid off (n * 1) = some ((List.range n).map vs) ∧ ∀ k, k < n → IAt h (vs k) (L k)
theorem PlAt.get {h : Heap} {v : AV} {n : Nat} {L : Nat → List Int} (hp : PlAt h v n L) : ∃ pid off ex, v = .slice pid off n 1 ex ∧ pid < h.length ∧ ∀ k, k < n → ∃ x, rd h pid (off + k) 1 = some [x] ∧ IAt h x (L k) := by
  obtain ⟨pid, off, ex, vs, rfl, hr, hv⟩ := hp
  refine ⟨pid, off, ex, rfl, rd_lt hr, fun k hk => ⟨vs k, ?_, hv k hk⟩⟩
  have e := rd_at hr hk
  rw [Nat.mul_one] at e
  rw [e]
  simp only [Nat.mul_one, Option.some.injEq]
  apply List.ext_getElem
  · simp; omega
  · intro j h1 h2
    simp only [List.length_cons, List.length_nil] at h2
    obtain rfl : j = 0 := by omega
    simp
theorem PlAt.app {h : Heap} {v : AV} {n : Nat} {L : Nat → List Int} (hp : PlAt h v n L) (G : Heap) : PlAt (h ++ G) v n L := by
  obtain ⟨pid, off, ex, vs, rfl, hr, hv⟩ := hp
  refine ⟨pid, off, ex, vs, rfl, ?_, fun k hk => (hv k hk).app G⟩
  have := rd_lt hr
  unfold rd at hr ⊢
  rw [List.getElem?_append_left this]; exact hr
end Go.Proofs
/- Lists that are made by appends, in a memory of any form. -/
namespace Go.Proofs
open Go.Abs
attribute [local simp] AOp.den AOpd.ev lk cellsOf rd_new rd_new0 rd_zero rd_succ wr_new wr_new0 wr_zero wr_succ splice fillA binA scal sliceCells List.length_append argsT AV.sc scL AObj.sc resV getAll AR.get AOp.slots opdSlots opdsSlots partSlots eqAt at_new0 at_new set_new0 set_new wrap64
set_option linter.unusedSimpArgs false
set_option linter.unusedVariables false
/-- A list made by appends, as it stands in memory: nothing, or one object. -/
def lsV (H : Heap) (sz n : Nat) : AV := if n = 0 then .nilslice else .slice H.length 0 n sz false
def lsO (n : Nat) (cs : List AV) : Heap := if n = 0 then [] else [AObj.cells cs true]
/-- A list that is made by appends. -/
def AAt (h : Heap) (sz : Nat) (v : AV) (cs : List AV) (n : Nat) : Prop :=
  cs.length = n * sz ∧ ((v = .nilslice ∧ n = 0) ∨ ∃ id, 0 < n ∧ v = .slice id 0 n sz false ∧ h[id]? = some (.cells cs true))
theorem AAt.l {h : Heap} {sz : Nat} {v : AV} {cs : List AV} {n : Nat} (hl : AAt h sz v cs n) : LAt h sz v cs n := by
  obtain ⟨hc, h1 | ⟨id, h0, rfl, hh⟩⟩ := hl
  · exact ⟨hc, .inl h1⟩
  · exact ⟨hc, .inr ⟨id, false, rfl, hh⟩⟩
theorem AAt.nil (h : Heap) (sz : Nat) : AAt h sz .nilslice [] 0 := ⟨by simp, .inl ⟨rfl, rfl⟩⟩
theorem AAt.of {h : Heap} {sz id : Nat} {cs : List AV} {n : Nat} (hl : LAt h sz (.slice id 0 n sz false) cs n) (h0 : 0 < n) : AAt h sz (.slice id 0 n sz false) cs n := by
  obtain ⟨hc, ⟨h1, _⟩ | ⟨i, ex, h1, hh⟩⟩ := hl
  · cases h1
  · cases h1; exact ⟨hc, .inr ⟨_, h0, rfl, hh⟩⟩
theorem AAt.app {h : Heap} {sz : Nat} {v : AV} {cs : List AV} {n : Nat} (hl : AAt h sz v cs n) (G : Heap) : AAt (h ++ G) sz v cs n := by
  obtain ⟨hc, h1 | ⟨id, h0, rfl, hh⟩⟩ := hl
  · exact ⟨hc, .inl h1⟩
  · exact ⟨hc, .inr ⟨id, h0, rfl, by rw [List.getElem?_append_left (List.getElem?_eq_some_iff.1 hh).1]; exact hh⟩⟩
end Go.Proofs
/- Lists and tracks that are compared. -/
namespace Go.Proofs
open Go.Abs
attribute [local simp] AOp.den AOpd.ev lk cellsOf rd_new rd_new0 rd_zero rd_succ wr_new wr_new0 wr_zero wr_succ splice fillA binA scal sliceCells List.length_append argsT AV.sc scL AObj.sc resV getAll AR.get AOp.slots opdSlots opdsSlots partSlots eqAt at_new0 at_new set_new0 set_new wrap64
set_option linter.unusedSimpArgs false
set_option linter.unusedVariables false
theorem RAt.row {h : Heap} {v : AV} {r : Nat → List AV} {k n : Nat} (hr : PlainRow k r) (hl : RAt h k v (avR r n) n) {i : Nat} (hi : i < n) : ∃ id off ex, v = .slice id off n k ex ∧ rd h id (off + i * k) k = some (r i) ∧ id < h.length := by
  obtain ⟨id, off, ex, rfl, hh⟩ := RAt.slice hl (by omega)
  refine ⟨id, off, ex, rfl, ?_, rd_lt hh⟩
  rw [rd_at hh hi, hr.row hi]
end Go.Proofs
/- The law TrackSpots: the reference's spots. -/
namespace Go.Proofs
open Go.Abs
attribute [local simp] AOp.den AOpd.ev lk cellsOf rd_new rd_new0 rd_zero rd_succ wr_new wr_new0 wr_zero wr_succ splice fillA binA scal sliceCells List.length_append argsT AV.sc scL AObj.sc resV getAll AR.get AOp.slots opdSlots opdsSlots partSlots eqAt at_new0 at_new set_new0 set_new wrap64
set_option linter.unusedSimpArgs false
set_option linter.unusedVariables false
theorem rd_cell {H : Heap} {l : List Str} {id off i c : Nat} (hs : rd H id off (l.length * 9) = some (l.flatMap Str.av)) (hi : i < l.length) (hc : c + 1 ≤ 9) : rd H id (off + i * 9 + c) 1 = some (((strAt l i).av.drop c).take 1) := by
  rw [rd_sub (rd_row Str.av_length hs hi) hc, strAt_eq hi]

end Go.Proofs
/- The law TrackSpots: how far spots are apart, by the reference. -/
namespace Go.Proofs
open Go.Abs
attribute [local simp] AOp.den AOpd.ev lk cellsOf rd_new rd_new0 rd_zero rd_succ wr_new wr_new0 wr_zero wr_succ splice fillA binA scal sliceCells List.length_append argsT AV.sc scL AObj.sc resV getAll AR.get AOp.slots opdSlots opdsSlots partSlots eqAt at_new0 at_new set_new0 set_new wrap64
set_option linter.unusedSimpArgs false
set_option linter.unusedVariables false
end Go.Proofs
/- The law TrackSpots: two runs as one. -/
namespace Go.Proofs
open Go.Abs
attribute [local simp] AOp.den AOpd.ev lk cellsOf rd_new rd_new0 rd_zero rd_succ wr_new wr_new0 wr_zero wr_succ splice fillA binA scal sliceCells List.length_append argsT AV.sc scL AObj.sc resV getAll AR.get AOp.slots opdSlots opdsSlots partSlots eqAt at_new0 at_new set_new0 set_new wrap64
set_option linter.unusedSimpArgs false
set_option linter.unusedVariables false
theorem c_Grow (H : Heap) (m : Nat) (h0 : 0 < m) (hm : m ≤ 1000) : ACalls Try.prog F.slices_Grow_api_Stretch_api_Stretch [.nilslice, .int .i64 m] H
    (fun v h' => v = .slice H.length 0 0 9 false ∧ ∃ cs, h' = H ++ [.cells cs true]) := by
  refine acalls_of ok_slices_Grow_api_Stretch_api_Stretch rfl fun hcl => ?_
  unfold ac_slices_Grow_api_Stretch_api_Stretch
  simp only [argsT, Nat.zero_add, Nat.reduceAdd]
  have h1 : (0 : Int) < m := by omega
  repeat (first|(with_reducible first|apply X1|apply X2|apply X3|apply X4|apply X5|apply X6|apply X7|apply X8|apply X9|apply Y1|apply Y2|apply Y3|apply Y4|apply Y5|apply Y6|apply Y7|apply Y8|apply Y9)|((with_reducible apply q_block_other);decide)|((with_reducible first|apply e_end|apply d_end);(simp;exact Red.rfl))|((first|((with_reducible apply O1);rfl)|((with_reducible apply O2);rfl)|((with_reducible apply P1);rfl)|((with_reducible apply P2);rfl)|((with_reducible apply P3);rfl)|((with_reducible apply P4);rfl)|((with_reducible apply P5);rfl));(simp (disch:=omega) [h1, h0];exact Red.rfl);exact Red.rfl;(focus (first|(simp;done)|omega|(simp;omega))))|((with_reducible first|apply Z7|apply Z8|apply Z9);(simp (disch:=omega) [h1, h0];exact Red.rfl))|((with_reducible first|apply Z1|apply Z2|apply Z3|apply Z4|apply Z5|apply Z6);(simp (disch:=omega) [h1, h0];exact Red.rfl))|((with_reducible first|apply W1|apply W2|apply W3);(simp (disch:=omega) [h1, h0];exact Red.rfl))|((with_reducible apply P6);rfl;(simp (disch:=omega) [h1, h0];exact Red.rfl);exact Red.rfl;(focus (first|(simp [pr];done)|(simp [pr];omega))))|((with_reducible apply P7);rfl;(simp (disch:=omega) [h1, h0];exact Red.rfl);exact Red.rfl;(focus (simp [repast, pr, AOp.sem];done))))
  exact q_stay (.inr rfl) (by simp; exact Red.rfl) ⟨rfl, _, rfl⟩
theorem c_Concat (H : Heap) (a b : List Str) (id1 o1 id2 o2 sid : Nat) (e1 e2 : Bool) (ha : rd H id1 o1 (a.length * 9) = some (a.flatMap Str.av)) (hb : rd H id2 o2 (b.length * 9) = some (b.flatMap Str.av))
    (hs : rd H sid 0 2 = some [.slice id1 o1 a.length 9 e1, .slice id2 o2 b.length 9 e2]) (h0 : 0 < a.length) (h1 : a.length ≤ 100) (h2 : b.length ≤ 100) :
    ACalls Try.prog F.slices_Concat_api_Stretch_api_Stretch [.slice sid 0 2 1 true] H (fun v h' => v = .slice H.length 0 (a.length + b.length) 9 false ∧ h' = H ++ [.cells ((a ++ b).flatMap Str.av) true]) := by
  refine acalls_of ok_slices_Concat_api_Stretch_api_Stretch rfl fun hcl => ?_
  unfold ac_slices_Concat_api_Stretch_api_Stretch
  simp only [argsT, Nat.zero_add, Nat.reduceAdd]
  have hsid := rd_lt hs
  have g0 : rd H sid 0 1 = some [.slice id1 o1 a.length 9 e1] := by
    have := rd_sub hs (show 0 + 1 ≤ 2 by omega)
    simpa using this
  have g1 : rd H sid 1 1 = some [.slice id2 o2 b.length 9 e2] := by
    have := rd_sub hs (show 1 + 1 ≤ 2 by omega)
    simpa using this
  repeat (first|(with_reducible first|apply X1|apply X2|apply X3|apply X4|apply X5|apply X6|apply X7|apply X8|apply X9|apply Y1|apply Y2|apply Y3|apply Y4|apply Y5|apply Y6|apply Y7|apply Y8|apply Y9)|((with_reducible apply q_block_other);decide)|((with_reducible first|apply e_end|apply d_end);(simp;exact Red.rfl))|((first|((with_reducible apply O1);rfl)|((with_reducible apply O2);rfl)|((with_reducible apply P1);rfl)|((with_reducible apply P2);rfl)|((with_reducible apply P3);rfl)|((with_reducible apply P4);rfl)|((with_reducible apply P5);rfl));(simp (disch:=omega);exact Red.rfl);exact Red.rfl;(focus (first|(simp;done)|omega|(simp;omega))))|((with_reducible first|apply Z7|apply Z8|apply Z9);(simp (disch:=omega);exact Red.rfl))|((with_reducible first|apply Z1|apply Z2|apply Z3|apply Z4|apply Z5|apply Z6);(simp (disch:=omega);exact Red.rfl))|((with_reducible first|apply W1|apply W2|apply W3);(simp (disch:=omega);exact Red.rfl))|((with_reducible apply P6);rfl;(simp (disch:=omega);exact Red.rfl);exact Red.rfl;(focus (first|(simp [pr];done)|(simp [pr];omega))))|((with_reducible apply P7);rfl;(simp (disch:=omega);exact Red.rfl);exact Red.rfl;(focus (simp [repast, pr, AOp.sem];done))))
  refine e_loop (ι := { k : Nat // k ≤ 2 }) (fun k => [(0, .slice sid 0 2 1 true), (3, .int .i64 (if k.1 = 0 then 0 else if k.1 = 1 then (a.length : Int) else (a.length : Int) + b.length)), (9, .slice sid 0 2 1 true), (10, .int .i64 2), (11, .int .i64 k.1)]) (fun _ => H) (fun k => 2 - k.1) ⟨0, by omega⟩ ?_ ?_
  · exact .inl rfl
  · rintro ⟨k, hk⟩
    dsimp only
    rcases (by omega : k = 0 ∨ k = 1 ∨ k = 2) with rfl | rfl | rfl
    · repeat (first|(with_reducible first|apply X1|apply X2|apply X3|apply X4|apply X5|apply X6|apply X7|apply X8|apply X9|apply Y1|apply Y2|apply Y3|apply Y4|apply Y5|apply Y6|apply Y7|apply Y8|apply Y9)|((with_reducible apply q_block_other);decide)|((with_reducible first|apply e_end|apply d_end);(simp;exact Red.rfl))|((first|((with_reducible apply O1);rfl)|((with_reducible apply O2);rfl)|((with_reducible apply P1);rfl)|((with_reducible apply P2);rfl)|((with_reducible apply P3);rfl)|((with_reducible apply P4);rfl)|((with_reducible apply P5);rfl));(simp (disch:=omega) [g0];exact Red.rfl);exact Red.rfl;(focus (first|(simp;done)|omega|(simp;omega))))|((with_reducible first|apply Z7|apply Z8|apply Z9);(simp (disch:=omega) [g0];exact Red.rfl))|((with_reducible first|apply Z1|apply Z2|apply Z3|apply Z4|apply Z5|apply Z6);(simp (disch:=omega) [g0];exact Red.rfl))|((with_reducible first|apply W1|apply W2|apply W3);(simp (disch:=omega) [g0];exact Red.rfl))|((with_reducible apply P6);rfl;(simp (disch:=omega) [g0];exact Red.rfl);exact Red.rfl;(focus (first|(simp [pr];done)|(simp [pr];omega))))|((with_reducible apply P7);rfl;(simp (disch:=omega) [g0];exact Red.rfl);exact Red.rfl;(focus (simp [repast, pr, AOp.sem];done))))
      exact q_again ⟨1, by omega⟩ (by dsimp only; omega) (.inl rfl)
    · repeat (first|(with_reducible first|apply X1|apply X2|apply X3|apply X4|apply X5|apply X6|apply X7|apply X8|apply X9|apply Y1|apply Y2|apply Y3|apply Y4|apply Y5|apply Y6|apply Y7|apply Y8|apply Y9)|((with_reducible apply q_block_other);decide)|((with_reducible first|apply e_end|apply d_end);(simp;exact Red.rfl))|((first|((with_reducible apply O1);rfl)|((with_reducible apply O2);rfl)|((with_reducible apply P1);rfl)|((with_reducible apply P2);rfl)|((with_reducible apply P3);rfl)|((with_reducible apply P4);rfl)|((with_reducible apply P5);rfl));(simp (disch:=omega) [g1];exact Red.rfl);exact Red.rfl;(focus (first|(simp;done)|omega|(simp;omega))))|((with_reducible first|apply Z7|apply Z8|apply Z9);(simp (disch:=omega) [g1];exact Red.rfl))|((with_reducible first|apply Z1|apply Z2|apply Z3|apply Z4|apply Z5|apply Z6);(simp (disch:=omega) [g1];exact Red.rfl))|((with_reducible first|apply W1|apply W2|apply W3);(simp (disch:=omega) [g1];exact Red.rfl))|((with_reducible apply P6);rfl;(simp (disch:=omega) [g1];exact Red.rfl);exact Red.rfl;(focus (first|(simp [pr];done)|(simp [pr];omega))))|((with_reducible apply P7);rfl;(simp (disch:=omega) [g1];exact Red.rfl);exact Red.rfl;(focus (simp [repast, pr, AOp.sem];done))))
      exact q_again ⟨2, by omega⟩ (by dsimp only; omega) (.inl rfl)
    · repeat (first|(with_reducible first|apply X1|apply X2|apply X3|apply X4|apply X5|apply X6|apply X7|apply X8|apply X9|apply Y1|apply Y2|apply Y3|apply Y4|apply Y5|apply Y6|apply Y7|apply Y8|apply Y9)|((with_reducible apply q_block_other);decide)|((with_reducible first|apply e_end|apply d_end);(simp;exact Red.rfl))|((first|((with_reducible apply O1);rfl)|((with_reducible apply O2);rfl)|((with_reducible apply P1);rfl)|((with_reducible apply P2);rfl)|((with_reducible apply P3);rfl)|((with_reducible apply P4);rfl)|((with_reducible apply P5);rfl));(simp (disch:=omega);exact Red.rfl);exact Red.rfl;(focus (first|(simp;done)|omega|(simp;omega))))|((with_reducible first|apply Z7|apply Z8|apply Z9);(simp (disch:=omega);exact Red.rfl))|((with_reducible first|apply Z1|apply Z2|apply Z3|apply Z4|apply Z5|apply Z6);(simp (disch:=omega);exact Red.rfl))|((with_reducible first|apply W1|apply W2|apply W3);(simp (disch:=omega);exact Red.rfl))|((with_reducible apply P6);rfl;(simp (disch:=omega);exact Red.rfl);exact Red.rfl;(focus (first|(simp [pr];done)|(simp [pr];omega))))|((with_reducible apply P7);rfl;(simp (disch:=omega);exact Red.rfl);exact Red.rfl;(focus (simp [repast, pr, AOp.sem];done))))
      have hg := c_Grow H (a.length + b.length) (by omega) (by omega)
      rw [Int.natCast_add] at hg
      (with_reducible apply e_call); (simp; exact Red.rfl); exact hg
      rintro _ _ ⟨rfl, cs, rfl⟩
      repeat (first|(with_reducible first|apply X1|apply X2|apply X3|apply X4|apply X5|apply X6|apply X7|apply X8|apply X9|apply Y1|apply Y2|apply Y3|apply Y4|apply Y5|apply Y6|apply Y7|apply Y8|apply Y9)|((with_reducible apply q_block_other);decide)|((with_reducible first|apply e_end|apply d_end);(simp;exact Red.rfl))|((first|((with_reducible apply O1);rfl)|((with_reducible apply O2);rfl)|((with_reducible apply P1);rfl)|((with_reducible apply P2);rfl)|((with_reducible apply P3);rfl)|((with_reducible apply P4);rfl)|((with_reducible apply P5);rfl));(simp (disch:=omega);exact Red.rfl);exact Red.rfl;(focus (first|(simp;done)|omega|(simp;omega))))|((with_reducible first|apply Z7|apply Z8|apply Z9);(simp (disch:=omega);exact Red.rfl))|((with_reducible first|apply Z1|apply Z2|apply Z3|apply Z4|apply Z5|apply Z6);(simp (disch:=omega);exact Red.rfl))|((with_reducible first|apply W1|apply W2|apply W3);(simp (disch:=omega);exact Red.rfl))|((with_reducible apply P6);rfl;(simp (disch:=omega);exact Red.rfl);exact Red.rfl;(focus (first|(simp [pr];done)|(simp [pr];omega))))|((with_reducible apply P7);rfl;(simp (disch:=omega);exact Red.rfl);exact Red.rfl;(focus (simp [repast, pr, AOp.sem];done))))
      have pa : Plain (a.flatMap Str.av) := by rw [flat_eq]; exact (plain_str a).plain _
      have pb : Plain (b.flatMap Str.av) := by rw [flat_eq]; exact (plain_str b).plain _
      have la : (a.flatMap Str.av).length = a.length * 9 := by rw [flat_eq]; exact (plain_str a).length _
      have lb : (b.flatMap Str.av).length = b.length * 9 := by rw [flat_eq]; exact (plain_str b).length _
      have hida := rd_lt ha
      have hidb := rd_lt hb
      refine e_loop (ι := { k : Nat // k ≤ 2 }) (fun k => [(6, if k.1 = 0 then .slice H.length 0 0 9 false else if k.1 = 1 then .slice (H.length + 1) 0 a.length 9 false else .slice (H.length + 2) 0 (a.length + b.length) 9 false), (25, .slice sid 0 2 1 true), (26, .int .i64 2), (27, .int .i64 k.1)])
        (fun k => H ++ (if k.1 = 0 then [.cells cs true] else if k.1 = 1 then [.dead, .cells (a.flatMap Str.av) true] else [.dead, .dead, .cells (a.flatMap Str.av ++ b.flatMap Str.av) true])) (fun k => 2 - k.1) ⟨0, by omega⟩ ?_ ?_
      · exact .inl rfl
      · rintro ⟨k, hk⟩
        dsimp only
        rcases (by omega : k = 0 ∨ k = 1 ∨ k = 2) with rfl | rfl | rfl
        · simp only [if_true]
          repeat (first|(with_reducible first|apply X1|apply X2|apply X3|apply X4|apply X5|apply X6|apply X7|apply X8|apply X9|apply Y1|apply Y2|apply Y3|apply Y4|apply Y5|apply Y6|apply Y7|apply Y8|apply Y9)|((with_reducible apply q_block_other);decide)|((with_reducible first|apply e_end|apply d_end);(simp;exact Red.rfl))|((first|((with_reducible apply O1);rfl)|((with_reducible apply O2);rfl)|((with_reducible apply P1);rfl)|((with_reducible apply P2);rfl)|((with_reducible apply P3);rfl)|((with_reducible apply P4);rfl)|((with_reducible apply P5);rfl));(simp (disch:=omega) [rd_old _ hsid, g0, rd_old _ hida, ha, pa.scal];exact Red.rfl);exact Red.rfl;(focus (first|(simp;done)|omega|(simp;omega))))|((with_reducible first|apply Z7|apply Z8|apply Z9);(simp (disch:=omega) [rd_old _ hsid, g0, rd_old _ hida, ha, pa.scal];exact Red.rfl))|((with_reducible first|apply Z1|apply Z2|apply Z3|apply Z4|apply Z5|apply Z6);(simp (disch:=omega) [rd_old _ hsid, g0, rd_old _ hida, ha, pa.scal];exact Red.rfl))|((with_reducible first|apply W1|apply W2|apply W3);(simp (disch:=omega) [rd_old _ hsid, g0, rd_old _ hida, ha, pa.scal];exact Red.rfl))|((with_reducible apply P6);rfl;(simp (disch:=omega) [rd_old _ hsid, g0, rd_old _ hida, ha, pa.scal];exact Red.rfl);exact Red.rfl;(focus (first|(simp [pr];done)|(simp [pr];omega))))|((with_reducible apply P7);rfl;(simp (disch:=omega) [rd_old _ hsid, g0, rd_old _ hida, ha, pa.scal];exact Red.rfl);exact Red.rfl;(focus (simp [repast, pr, AOp.sem];done))))
          exact q_again ⟨1, by omega⟩ (by dsimp only; omega) (.inl rfl)
        · simp only [if_true, Nat.one_ne_zero, if_false]
          repeat (first|(with_reducible first|apply X1|apply X2|apply X3|apply X4|apply X5|apply X6|apply X7|apply X8|apply X9|apply Y1|apply Y2|apply Y3|apply Y4|apply Y5|apply Y6|apply Y7|apply Y8|apply Y9)|((with_reducible apply q_block_other);decide)|((with_reducible first|apply e_end|apply d_end);(simp;exact Red.rfl))|((first|((with_reducible apply O1);rfl)|((with_reducible apply O2);rfl)|((with_reducible apply P1);rfl)|((with_reducible apply P2);rfl)|((with_reducible apply P3);rfl)|((with_reducible apply P4);rfl)|((with_reducible apply P5);rfl));(simp (disch:=omega) [rd_old _ hsid, g1, rd_old _ hidb, hb, pb.scal, la, take_all la];exact Red.rfl);exact Red.rfl;(focus (first|(simp;done)|omega|(simp;omega))))|((with_reducible first|apply Z7|apply Z8|apply Z9);(simp (disch:=omega) [rd_old _ hsid, g1, rd_old _ hidb, hb, pb.scal, la, take_all la];exact Red.rfl))|((with_reducible first|apply Z1|apply Z2|apply Z3|apply Z4|apply Z5|apply Z6);(simp (disch:=omega) [rd_old _ hsid, g1, rd_old _ hidb, hb, pb.scal, la, take_all la];exact Red.rfl))|((with_reducible first|apply W1|apply W2|apply W3);(simp (disch:=omega) [rd_old _ hsid, g1, rd_old _ hidb, hb, pb.scal, la, take_all la];exact Red.rfl))|((with_reducible apply P6);rfl;(simp (disch:=omega) [rd_old _ hsid, g1, rd_old _ hidb, hb, pb.scal, la, take_all la];exact Red.rfl);exact Red.rfl;(focus (first|(simp [pr];done)|(simp [pr];omega))))|((with_reducible apply P7);rfl;(simp (disch:=omega) [rd_old _ hsid, g1, rd_old _ hidb, hb, pb.scal, la, take_all la];exact Red.rfl);exact Red.rfl;(focus (simp [repast, pr, AOp.sem];done))))
          exact q_again ⟨2, by omega⟩ (by dsimp only; omega) (.inl rfl)
        · simp only [Nat.reduceEqDiff, if_false]
          repeat (first|(with_reducible first|apply X1|apply X2|apply X3|apply X4|apply X5|apply X6|apply X7|apply X8|apply X9|apply Y1|apply Y2|apply Y3|apply Y4|apply Y5|apply Y6|apply Y7|apply Y8|apply Y9)|((with_reducible apply q_block_other);decide)|((with_reducible first|apply e_end|apply d_end);(simp;exact Red.rfl))|((first|((with_reducible apply O1);rfl)|((with_reducible apply O2);rfl)|((with_reducible apply P1);rfl)|((with_reducible apply P2);rfl)|((with_reducible apply P3);rfl)|((with_reducible apply P4);rfl)|((with_reducible apply P5);rfl));(simp (disch:=omega);exact Red.rfl);exact Red.rfl;(focus (first|(simp;done)|omega|(simp;omega))))|((with_reducible first|apply Z7|apply Z8|apply Z9);(simp (disch:=omega);exact Red.rfl))|((with_reducible first|apply Z1|apply Z2|apply Z3|apply Z4|apply Z5|apply Z6);(simp (disch:=omega);exact Red.rfl))|((with_reducible first|apply W1|apply W2|apply W3);(simp (disch:=omega);exact Red.rfl))|((with_reducible apply P6);rfl;(simp (disch:=omega);exact Red.rfl);exact Red.rfl;(focus (first|(simp [pr];done)|(simp [pr];omega))))|((with_reducible apply P7);rfl;(simp (disch:=omega);exact Red.rfl);exact Red.rfl;(focus (simp [repast, pr, AOp.sem];done))))
          have pab : Plain ((a ++ b).flatMap Str.av) := by rw [flat_eq]; exact (plain_str _).plain _
          exact q_post (v' := .slice H.length 0 (a.length + b.length) 9 false) (.inr rfl) (by simp; exact Red.rfl) (le_plain [2] [.cells ((a ++ b).flatMap Str.av) true] (by simp) (by simp) (by simp only [List.mem_singleton]; rintro _ rfl; exact pab.o _) (by simp [sh, AV.ren])) ⟨rfl, rfl⟩
def firstId (b : List Str) : Int := (strAt b 0).id
def lastId (a : List Str) : Int := (strAt a (a.length - 1)).id
open Classical in
noncomputable def joinE (a b : List Str) : Int := if ¬ validL a ∨ ¬ validL b then 10 else if 12 < a.length + b.length then 9 else if firstId b ≤ lastId a then 8 else 0
noncomputable def joinL (a b : List Str) : List Str := if joinE a b = 0 then a ++ b else []
noncomputable def jnR (H : Heap) (a b : List Str) (v : AV) (h' : Heap) : Prop := v = .tuple [.agg [lsV H 9 (joinL a b).length], .int .i64 (joinE a b)] ∧ h' = H ++ lsO (joinL a b).length ((joinL a b).flatMap Str.av)
theorem jn_bad {H : Heap} {a b : List Str} {e : Int} (he : joinE a b = e) (h0 : e ≠ 0) {v : AV} {h' : Heap} (hv : v = .tuple [.agg [.nilslice], .int .i64 e]) (hh : h' = H) : jnR H a b v h' := by
  have : joinL a b = [] := by rw [joinL, if_neg (by rw [he]; exact h0)]
  simp [jnR, this, he, hv, hh, lsV, lsO]
theorem jn_ok {H : Heap} {a b : List Str} (he : joinE a b = 0) (h0 : 0 < a.length) {v : AV} {h' : Heap} (hv : v = .tuple [.agg [.slice H.length 0 (a.length + b.length) 9 false], .int .i64 0]) (hh : h' = H ++ [.cells ((a ++ b).flatMap Str.av) true]) : jnR H a b v h' := by
  have : joinL a b = a ++ b := by rw [joinL, if_pos he]
  have hn : ¬ a.length + b.length = 0 := by omega
  simp only [jnR, this, he, hv, hh, lsV, lsO, if_neg hn, List.length_append, and_self]
end Go.Proofs
/- The law TrackSpots: two runs as one, by the program and by the reference. -/
namespace Go.Proofs
open Go.Abs
attribute [local simp] AOp.den AOpd.ev lk cellsOf rd_new rd_new0 rd_zero rd_succ wr_new wr_new0 wr_zero wr_succ splice fillA binA scal sliceCells List.length_append argsT AV.sc scL AObj.sc resV getAll AR.get AOp.slots opdSlots opdsSlots partSlots eqAt at_new0 at_new set_new0 set_new wrap64
set_option linter.unusedSimpArgs false
set_option linter.unusedVariables false
theorem sz1 {l : List Str} (hv : validL l) : 1 ≤ l.length ∧ l.length ≤ 12 := hv.1
set_option maxHeartbeats 1000000 in
theorem c_Join (H : Heap) (a b : List Str) (id1 o1 id2 o2 : Nat) (e1 e2 : Bool) (ha : rd H id1 o1 (a.length * 9) = some (a.flatMap Str.av)) (hb : rd H id2 o2 (b.length * 9) = some (b.flatMap Str.av)) (hna : (a.length : Int) < 1000000) (hnb : (b.length : Int) < 1000000) :
    ACalls Try.prog F.track_Join [.agg [.slice id1 o1 a.length 9 e1], .agg [.slice id2 o2 b.length 9 e2]] H (jnR H a b) := by
  refine acalls_of ok_track_Join rfl fun hcl => ?_
  unfold ac_track_Join
  simp only [argsT, Nat.zero_add, Nat.reduceAdd]
  have hida := rd_lt ha
  have hidb := rd_lt hb
  repeat (first|(with_reducible first|apply X1|apply X2|apply X3|apply X4|apply X5|apply X6|apply X7|apply X8|apply X9|apply Y1|apply Y2|apply Y3|apply Y4|apply Y5|apply Y6|apply Y7|apply Y8|apply Y9)|((with_reducible apply q_block_other);decide)|((with_reducible first|apply e_end|apply d_end);(simp;exact Red.rfl))|((first|((with_reducible apply O1);rfl)|((with_reducible apply O2);rfl)|((with_reducible apply P1);rfl)|((with_reducible apply P2);rfl)|((with_reducible apply P3);rfl)|((with_reducible apply P4);rfl)|((with_reducible apply P5);rfl));(simp (disch:=omega);exact Red.rfl);exact Red.rfl;(focus (first|(simp;done)|omega|(simp;omega))))|((with_reducible first|apply Z7|apply Z8|apply Z9);(simp (disch:=omega);exact Red.rfl))|((with_reducible first|apply Z1|apply Z2|apply Z3|apply Z4|apply Z5|apply Z6);(simp (disch:=omega);exact Red.rfl))|((with_reducible first|apply W1|apply W2|apply W3);(simp (disch:=omega);exact Red.rfl))|((with_reducible apply P6);rfl;(simp (disch:=omega);exact Red.rfl);exact Red.rfl;(focus (first|(simp [pr];done)|(simp [pr];omega))))|((with_reducible apply P7);rfl;(simp (disch:=omega);exact Red.rfl);exact Red.rfl;(focus (simp [repast, pr, AOp.sem];done))))
  refine e_loop (ι := { k : Nat // k ≤ 2 ∧ (1 ≤ k → validL a) ∧ (2 ≤ k → validL b) }) (fun k => [(2, .ptr H.length 0), (3, .ptr (H.length + 1) 0), (4, .ptr (H.length + 2) 0), (11, .agg [.slice id1 o1 a.length 9 e1, .slice id2 o2 b.length 9 e2]), (12, .int .i64 k.1)])
    (fun k => H ++ [.cells [.slice id1 o1 a.length 9 e1] true, .cells [.slice id2 o2 b.length 9 e2] true, .cells [.nilslice] true]) (fun k => 2 - k.1) ⟨0, by omega, by omega, by omega⟩ ?_ ?_
  · exact .inl rfl
  · rintro ⟨k, hk, hk1, hk2⟩
    dsimp only
    rcases (by omega : k = 0 ∨ k = 1 ∨ k = 2) with rfl | rfl | rfl
    · repeat (first|(with_reducible first|apply X1|apply X2|apply X3|apply X4|apply X5|apply X6|apply X7|apply X8|apply X9|apply Y1|apply Y2|apply Y3|apply Y4|apply Y5|apply Y6|apply Y7|apply Y8|apply Y9)|((with_reducible apply q_block_other);decide)|((with_reducible first|apply e_end|apply d_end);(simp;exact Red.rfl))|((first|((with_reducible apply O1);rfl)|((with_reducible apply O2);rfl)|((with_reducible apply P1);rfl)|((with_reducible apply P2);rfl)|((with_reducible apply P3);rfl)|((with_reducible apply P4);rfl)|((with_reducible apply P5);rfl));(simp (disch:=omega);exact Red.rfl);exact Red.rfl;(focus (first|(simp;done)|omega|(simp;omega))))|((with_reducible first|apply Z7|apply Z8|apply Z9);(simp (disch:=omega);exact Red.rfl))|((with_reducible first|apply Z1|apply Z2|apply Z3|apply Z4|apply Z5|apply Z6);(simp (disch:=omega);exact Red.rfl))|((with_reducible first|apply W1|apply W2|apply W3);(simp (disch:=omega);exact Red.rfl))|((with_reducible apply P6);rfl;(simp (disch:=omega);exact Red.rfl);exact Red.rfl;(focus (first|(simp [pr];done)|(simp [pr];omega))))|((with_reducible apply P7);rfl;(simp (disch:=omega);exact Red.rfl);exact Red.rfl;(focus (simp [repast, pr, AOp.sem];done))))
      (with_reducible apply e_call); (simp; exact Red.rfl); exact c_Check _ a id1 o1 e1 (by rw [rd_old _ hida]; exact ha) hna
      rintro _ _ ⟨rfl, e, rfl, he⟩
      rcases he with ⟨hv, rfl⟩ | ⟨hv, rfl⟩
      · repeat (first|(with_reducible first|apply X1|apply X2|apply X3|apply X4|apply X5|apply X6|apply X7|apply X8|apply X9|apply Y1|apply Y2|apply Y3|apply Y4|apply Y5|apply Y6|apply Y7|apply Y8|apply Y9)|((with_reducible apply q_block_other);decide)|((with_reducible first|apply e_end|apply d_end);(simp;exact Red.rfl))|((first|((with_reducible apply O1);rfl)|((with_reducible apply O2);rfl)|((with_reducible apply P1);rfl)|((with_reducible apply P2);rfl)|((with_reducible apply P3);rfl)|((with_reducible apply P4);rfl)|((with_reducible apply P5);rfl));(simp (disch:=omega);exact Red.rfl);exact Red.rfl;(focus (first|(simp;done)|omega|(simp;omega))))|((with_reducible first|apply Z7|apply Z8|apply Z9);(simp (disch:=omega);exact Red.rfl))|((with_reducible first|apply Z1|apply Z2|apply Z3|apply Z4|apply Z5|apply Z6);(simp (disch:=omega);exact Red.rfl))|((with_reducible first|apply W1|apply W2|apply W3);(simp (disch:=omega);exact Red.rfl))|((with_reducible apply P6);rfl;(simp (disch:=omega);exact Red.rfl);exact Red.rfl;(focus (first|(simp [pr];done)|(simp [pr];omega))))|((with_reducible apply P7);rfl;(simp (disch:=omega);exact Red.rfl);exact Red.rfl;(focus (simp [repast, pr, AOp.sem];done))))
        exact q_again ⟨1, by omega, fun _ => hv, by omega⟩ (by dsimp only; omega) (.inr <| le_take (G := [_, _, _]) (by simp [hida, hidb]; omega) (by simp [hida, hidb, Red]; omega))
      · repeat (first|(with_reducible first|apply X1|apply X2|apply X3|apply X4|apply X5|apply X6|apply X7|apply X8|apply X9|apply Y1|apply Y2|apply Y3|apply Y4|apply Y5|apply Y6|apply Y7|apply Y8|apply Y9)|((with_reducible apply q_block_other);decide)|((with_reducible first|apply e_end|apply d_end);(simp;exact Red.rfl))|((first|((with_reducible apply O1);rfl)|((with_reducible apply O2);rfl)|((with_reducible apply P1);rfl)|((with_reducible apply P2);rfl)|((with_reducible apply P3);rfl)|((with_reducible apply P4);rfl)|((with_reducible apply P5);rfl));(simp (disch:=omega);exact Red.rfl);exact Red.rfl;(focus (first|(simp;done)|omega|(simp;omega))))|((with_reducible first|apply Z7|apply Z8|apply Z9);(simp (disch:=omega);exact Red.rfl))|((with_reducible first|apply Z1|apply Z2|apply Z3|apply Z4|apply Z5|apply Z6);(simp (disch:=omega);exact Red.rfl))|((with_reducible first|apply W1|apply W2|apply W3);(simp (disch:=omega);exact Red.rfl))|((with_reducible apply P6);rfl;(simp (disch:=omega);exact Red.rfl);exact Red.rfl;(focus (first|(simp [pr];done)|(simp [pr];omega))))|((with_reducible apply P7);rfl;(simp (disch:=omega);exact Red.rfl);exact Red.rfl;(focus (simp [repast, pr, AOp.sem];done))))
        refine q_drop (.inr rfl) (by simp; exact Red.rfl) (by simp) (jn_bad (e := 10) (by rw [joinE, if_pos (.inl hv)]) (by decide) rfl rfl)
    · repeat (first|(with_reducible first|apply X1|apply X2|apply X3|apply X4|apply X5|apply X6|apply X7|apply X8|apply X9|apply Y1|apply Y2|apply Y3|apply Y4|apply Y5|apply Y6|apply Y7|apply Y8|apply Y9)|((with_reducible apply q_block_other);decide)|((with_reducible first|apply e_end|apply d_end);(simp;exact Red.rfl))|((first|((with_reducible apply O1);rfl)|((with_reducible apply O2);rfl)|((with_reducible apply P1);rfl)|((with_reducible apply P2);rfl)|((with_reducible apply P3);rfl)|((with_reducible apply P4);rfl)|((with_reducible apply P5);rfl));(simp (disch:=omega);exact Red.rfl);exact Red.rfl;(focus (first|(simp;done)|omega|(simp;omega))))|((with_reducible first|apply Z7|apply Z8|apply Z9);(simp (disch:=omega);exact Red.rfl))|((with_reducible first|apply Z1|apply Z2|apply Z3|apply Z4|apply Z5|apply Z6);(simp (disch:=omega);exact Red.rfl))|((with_reducible first|apply W1|apply W2|apply W3);(simp (disch:=omega);exact Red.rfl))|((with_reducible apply P6);rfl;(simp (disch:=omega);exact Red.rfl);exact Red.rfl;(focus (first|(simp [pr];done)|(simp [pr];omega))))|((with_reducible apply P7);rfl;(simp (disch:=omega);exact Red.rfl);exact Red.rfl;(focus (simp [repast, pr, AOp.sem];done))))
      (with_reducible apply e_call); (simp; exact Red.rfl); exact c_Check _ b id2 o2 e2 (by rw [rd_old _ hidb]; exact hb) hnb
      rintro _ _ ⟨rfl, e, rfl, he⟩
      rcases he with ⟨hv, rfl⟩ | ⟨hv, rfl⟩
      · repeat (first|(with_reducible first|apply X1|apply X2|apply X3|apply X4|apply X5|apply X6|apply X7|apply X8|apply X9|apply Y1|apply Y2|apply Y3|apply Y4|apply Y5|apply Y6|apply Y7|apply Y8|apply Y9)|((with_reducible apply q_block_other);decide)|((with_reducible first|apply e_end|apply d_end);(simp;exact Red.rfl))|((first|((with_reducible apply O1);rfl)|((with_reducible apply O2);rfl)|((with_reducible apply P1);rfl)|((with_reducible apply P2);rfl)|((with_reducible apply P3);rfl)|((with_reducible apply P4);rfl)|((with_reducible apply P5);rfl));(simp (disch:=omega);exact Red.rfl);exact Red.rfl;(focus (first|(simp;done)|omega|(simp;omega))))|((with_reducible first|apply Z7|apply Z8|apply Z9);(simp (disch:=omega);exact Red.rfl))|((with_reducible first|apply Z1|apply Z2|apply Z3|apply Z4|apply Z5|apply Z6);(simp (disch:=omega);exact Red.rfl))|((with_reducible first|apply W1|apply W2|apply W3);(simp (disch:=omega);exact Red.rfl))|((with_reducible apply P6);rfl;(simp (disch:=omega);exact Red.rfl);exact Red.rfl;(focus (first|(simp [pr];done)|(simp [pr];omega))))|((with_reducible apply P7);rfl;(simp (disch:=omega);exact Red.rfl);exact Red.rfl;(focus (simp [repast, pr, AOp.sem];done))))
        exact q_again ⟨2, by omega, fun _ => hk1 (by omega), fun _ => hv⟩ (by dsimp only; omega) (.inr <| le_take (G := [_, _, _]) (by simp [hida, hidb]; omega) (by simp [hida, hidb, Red]; omega))
      · repeat (first|(with_reducible first|apply X1|apply X2|apply X3|apply X4|apply X5|apply X6|apply X7|apply X8|apply X9|apply Y1|apply Y2|apply Y3|apply Y4|apply Y5|apply Y6|apply Y7|apply Y8|apply Y9)|((with_reducible apply q_block_other);decide)|((with_reducible first|apply e_end|apply d_end);(simp;exact Red.rfl))|((first|((with_reducible apply O1);rfl)|((with_reducible apply O2);rfl)|((with_reducible apply P1);rfl)|((with_reducible apply P2);rfl)|((with_reducible apply P3);rfl)|((with_reducible apply P4);rfl)|((with_reducible apply P5);rfl));(simp (disch:=omega);exact Red.rfl);exact Red.rfl;(focus (first|(simp;done)|omega|(simp;omega))))|((with_reducible first|apply Z7|apply Z8|apply Z9);(simp (disch:=omega);exact Red.rfl))|((with_reducible first|apply Z1|apply Z2|apply Z3|apply Z4|apply Z5|apply Z6);(simp (disch:=omega);exact Red.rfl))|((with_reducible first|apply W1|apply W2|apply W3);(simp (disch:=omega);exact Red.rfl))|((with_reducible apply P6);rfl;(simp (disch:=omega);exact Red.rfl);exact Red.rfl;(focus (first|(simp [pr];done)|(simp [pr];omega))))|((with_reducible apply P7);rfl;(simp (disch:=omega);exact Red.rfl);exact Red.rfl;(focus (simp [repast, pr, AOp.sem];done))))
        refine q_drop (.inr rfl) (by simp; exact Red.rfl) (by simp) (jn_bad (e := 10) (by rw [joinE, if_pos (.inr hv)]) (by decide) rfl rfl)
    · have hva := hk1 (by omega)
      have hvb := hk2 (by omega)
      have hE : ¬ (¬ validL a ∨ ¬ validL b) := by simp [hva, hvb]
      have ka := sz1 hva
      have kb := sz1 hvb
      by_cases h12 : 12 < a.length + b.length
      · have h12i : (12 : Int) < (a.length : Int) + b.length := by omega
        repeat (first|(with_reducible first|apply X1|apply X2|apply X3|apply X4|apply X5|apply X6|apply X7|apply X8|apply X9|apply Y1|apply Y2|apply Y3|apply Y4|apply Y5|apply Y6|apply Y7|apply Y8|apply Y9)|((with_reducible apply q_block_other);decide)|((with_reducible first|apply e_end|apply d_end);(simp;exact Red.rfl))|((first|((with_reducible apply O1);rfl)|((with_reducible apply O2);rfl)|((with_reducible apply P1);rfl)|((with_reducible apply P2);rfl)|((with_reducible apply P3);rfl)|((with_reducible apply P4);rfl)|((with_reducible apply P5);rfl));(simp (disch:=omega) [h12i];exact Red.rfl);exact Red.rfl;(focus (first|(simp;done)|omega|(simp;omega))))|((with_reducible first|apply Z7|apply Z8|apply Z9);(simp (disch:=omega) [h12i];exact Red.rfl))|((with_reducible first|apply Z1|apply Z2|apply Z3|apply Z4|apply Z5|apply Z6);(simp (disch:=omega) [h12i];exact Red.rfl))|((with_reducible first|apply W1|apply W2|apply W3);(simp (disch:=omega) [h12i];exact Red.rfl))|((with_reducible apply P6);rfl;(simp (disch:=omega) [h12i];exact Red.rfl);exact Red.rfl;(focus (first|(simp [pr];done)|(simp [pr];omega))))|((with_reducible apply P7);rfl;(simp (disch:=omega) [h12i];exact Red.rfl);exact Red.rfl;(focus (simp [repast, pr, AOp.sem];done))))
        refine q_drop (.inr rfl) (by simp; exact Red.rfl) (by simp) (jn_bad (e := 9) (by rw [joinE, if_neg hE, if_pos h12]) (by decide) rfl rfl)
      · have h12i : ¬ (12 : Int) < (a.length : Int) + b.length := by omega
        have hx : rd H id1 (o1 + (a.length - 1) * 9) 1 = some [.int .i64 (lastId a)] := rd_cell (c := 0) ha (show a.length - 1 < a.length by omega) (by decide)
        have hy : rd H id2 o2 1 = some [.int .i64 (firstId b)] := by
          have h : rd H id2 (o2 + 0 * 9 + 0) 1 = some [.int .i64 (firstId b)] := rd_cell (c := 0) hb (show 0 < b.length by omega) (by decide)
          simpa only [Nat.zero_mul, Nat.add_zero] using h
        have hz : ((a.length : Int) - 1).toNat = a.length - 1 := by omega
        by_cases hid : firstId b ≤ lastId a
        · repeat (first|(with_reducible first|apply X1|apply X2|apply X3|apply X4|apply X5|apply X6|apply X7|apply X8|apply X9|apply Y1|apply Y2|apply Y3|apply Y4|apply Y5|apply Y6|apply Y7|apply Y8|apply Y9)|((with_reducible apply q_block_other);decide)|((with_reducible first|apply e_end|apply d_end);(simp;exact Red.rfl))|((first|((with_reducible apply O1);rfl)|((with_reducible apply O2);rfl)|((with_reducible apply P1);rfl)|((with_reducible apply P2);rfl)|((with_reducible apply P3);rfl)|((with_reducible apply P4);rfl)|((with_reducible apply P5);rfl));(simp (disch:=omega) [h12i, rd_old _ hida, rd_old _ hidb, hx, hy, hz, hid];exact Red.rfl);exact Red.rfl;(focus (first|(simp;done)|omega|(simp;omega))))|((with_reducible first|apply Z7|apply Z8|apply Z9);(simp (disch:=omega) [h12i, rd_old _ hida, rd_old _ hidb, hx, hy, hz, hid];exact Red.rfl))|((with_reducible first|apply Z1|apply Z2|apply Z3|apply Z4|apply Z5|apply Z6);(simp (disch:=omega) [h12i, rd_old _ hida, rd_old _ hidb, hx, hy, hz, hid];exact Red.rfl))|((with_reducible first|apply W1|apply W2|apply W3);(simp (disch:=omega) [h12i, rd_old _ hida, rd_old _ hidb, hx, hy, hz, hid];exact Red.rfl))|((with_reducible apply P6);rfl;(simp (disch:=omega) [h12i, rd_old _ hida, rd_old _ hidb, hx, hy, hz, hid];exact Red.rfl);exact Red.rfl;(focus (first|(simp [pr];done)|(simp [pr];omega))))|((with_reducible apply P7);rfl;(simp (disch:=omega) [h12i, rd_old _ hida, rd_old _ hidb, hx, hy, hz, hid];exact Red.rfl);exact Red.rfl;(focus (simp [repast, pr, AOp.sem];done))))
          refine q_drop (.inr rfl) (by simp; exact Red.rfl) (by simp) (jn_bad (e := 8) (by rw [joinE, if_neg hE, if_neg h12, if_pos hid]) (by decide) rfl rfl)
        · repeat (first|(with_reducible first|apply X1|apply X2|apply X3|apply X4|apply X5|apply X6|apply X7|apply X8|apply X9|apply Y1|apply Y2|apply Y3|apply Y4|apply Y5|apply Y6|apply Y7|apply Y8|apply Y9)|((with_reducible apply q_block_other);decide)|((with_reducible first|apply e_end|apply d_end);(simp;exact Red.rfl))|((first|((with_reducible apply O1);rfl)|((with_reducible apply O2);rfl)|((with_reducible apply P1);rfl)|((with_reducible apply P2);rfl)|((with_reducible apply P3);rfl)|((with_reducible apply P4);rfl)|((with_reducible apply P5);rfl));(simp (disch:=omega) [h12i, rd_old _ hida, rd_old _ hidb, hx, hy, hz, hid];exact Red.rfl);exact Red.rfl;(focus (first|(simp;done)|omega|(simp;omega))))|((with_reducible first|apply Z7|apply Z8|apply Z9);(simp (disch:=omega) [h12i, rd_old _ hida, rd_old _ hidb, hx, hy, hz, hid];exact Red.rfl))|((with_reducible first|apply Z1|apply Z2|apply Z3|apply Z4|apply Z5|apply Z6);(simp (disch:=omega) [h12i, rd_old _ hida, rd_old _ hidb, hx, hy, hz, hid];exact Red.rfl))|((with_reducible first|apply W1|apply W2|apply W3);(simp (disch:=omega) [h12i, rd_old _ hida, rd_old _ hidb, hx, hy, hz, hid];exact Red.rfl))|((with_reducible apply P6);rfl;(simp (disch:=omega) [h12i, rd_old _ hida, rd_old _ hidb, hx, hy, hz, hid];exact Red.rfl);exact Red.rfl;(focus (first|(simp [pr];done)|(simp [pr];omega))))|((with_reducible apply P7);rfl;(simp (disch:=omega) [h12i, rd_old _ hida, rd_old _ hidb, hx, hy, hz, hid];exact Red.rfl);exact Red.rfl;(focus (simp [repast, pr, AOp.sem];done))))
          (with_reducible apply e_call); (simp; exact Red.rfl); exact c_Concat _ a b id1 o1 id2 o2 _ e1 e2 (by rw [rd_old _ hida]; exact ha) (by rw [rd_old _ hidb]; exact hb) (by simp) (by omega) (by omega) (by omega)
          rintro _ _ ⟨rfl, rfl⟩
          repeat (first|(with_reducible first|apply X1|apply X2|apply X3|apply X4|apply X5|apply X6|apply X7|apply X8|apply X9|apply Y1|apply Y2|apply Y3|apply Y4|apply Y5|apply Y6|apply Y7|apply Y8|apply Y9)|((with_reducible apply q_block_other);decide)|((with_reducible first|apply e_end|apply d_end);(simp;exact Red.rfl))|((first|((with_reducible apply O1);rfl)|((with_reducible apply O2);rfl)|((with_reducible apply P1);rfl)|((with_reducible apply P2);rfl)|((with_reducible apply P3);rfl)|((with_reducible apply P4);rfl)|((with_reducible apply P5);rfl));(simp (disch:=omega);exact Red.rfl);exact Red.rfl;(focus (first|(simp;done)|omega|(simp;omega))))|((with_reducible first|apply Z7|apply Z8|apply Z9);(simp (disch:=omega);exact Red.rfl))|((with_reducible first|apply Z1|apply Z2|apply Z3|apply Z4|apply Z5|apply Z6);(simp (disch:=omega);exact Red.rfl))|((with_reducible first|apply W1|apply W2|apply W3);(simp (disch:=omega);exact Red.rfl))|((with_reducible apply P6);rfl;(simp (disch:=omega);exact Red.rfl);exact Red.rfl;(focus (first|(simp [pr];done)|(simp [pr];omega))))|((with_reducible apply P7);rfl;(simp (disch:=omega);exact Red.rfl);exact Red.rfl;(focus (simp [repast, pr, AOp.sem];done))))
          have pab : Plain ((a ++ b).flatMap Str.av) := by rw [flat_eq]; exact (plain_str _).plain _
          refine q_post (v' := .tuple [.agg [.slice H.length 0 (a.length + b.length) 9 false], .int .i64 0]) (.inr rfl) (by simp; exact Red.rfl) (le_plain [4] [.cells ((a ++ b).flatMap Str.av) true] (by simp) (by simp) (by simp only [List.mem_singleton]; rintro _ rfl; exact pab.o _) (by simp [sh, AV.ren, renL])) (jn_ok (by rw [joinE, if_neg hE, if_neg h12, if_neg hid]) (by omega) rfl rfl)
end Go.Proofs
