/- Several texts as one. -/
import Derived.Test.YtdjneegacogklaaDD
import Derived.Test.YtdjneegacogklaaAcS2
import Derived.Test.YtdjneegacogklaaAcS1
import Derived.Test.YtdjneegacogklaaAcS0
import Derived.Test.YtdjneegacogklaaSC
/- Lists that are appended to, in a memory of any form. -/
namespace Go.Proofs
open Go.Abs
attribute [local simp] AOp.den AOpd.ev lk cellsOf rd_new rd_new0 rd_zero rd_succ wr_new wr_new0 wr_zero wr_succ splice fillA binA scal sliceCells List.length_append argsT AV.sc scL AObj.sc resV getAll AR.get AOp.slots opdSlots opdsSlots partSlots eqAt at_new0 at_new set_new0 set_new wrap64
set_option linter.unusedSimpArgs false
set_option linter.unusedVariables false
/-- A list in memory that may be nil. -/
def LAt (h : Heap) (sz : Nat) (v : AV) (cs : List AV) (n : Nat) : Prop :=
  cs.length = n * sz ∧ ((v = .nilslice ∧ n = 0) ∨ ∃ id ex, v = .slice id 0 n sz ex ∧ h[id]? = some (.cells cs true))
def isId : AV → Nat → Prop
  | .slice id _ _ _ _, i => id = i
  | _, _ => False
theorem LAt.nil (h : Heap) (sz : Nat) : LAt h sz .nilslice [] 0 := ⟨by simp, .inl ⟨rfl, rfl⟩⟩
theorem LAt.of {h : Heap} {id : Nat} {cs : List AV} (hh : h[id]? = some (.cells cs true)) {n sz : Nat} (hc : cs.length = n * sz) (ex : Bool) : LAt h sz (.slice id 0 n sz ex) cs n := ⟨hc, .inr ⟨id, ex, rfl, hh⟩⟩
theorem LAt.cells {h : Heap} {sz : Nat} {v : AV} {cs : List AV} {n : Nat} (hl : LAt h sz v cs n) : sliceCells h sz v = some (n, cs) := by
  obtain ⟨hc, ⟨rfl, rfl⟩ | ⟨id, ex, rfl, hh⟩⟩ := hl
  · obtain rfl : cs = [] := by simpa using hc
    rfl
  · simp only [sliceCells, if_true, rd, hh]
    rw [if_pos (by omega)]
    simp only [List.drop_zero, Option.map_some, ← hc, List.take_length]
theorem LAt.len {h : Heap} {sz : Nat} {v : AV} {cs : List AV} {n : Nat} (hl : LAt h sz v cs n) {ev : AOpd → AV} {x : AOpd} (hx : ev x = v) : (AOp.len x).den ev h = .ok True (.int .i64 n) h := by
  obtain ⟨hc, ⟨rfl, rfl⟩ | ⟨id, ex, rfl, hh⟩⟩ := hl <;> simp [AOp.den, hx]
theorem LAt.keep {h h' : Heap} {sz : Nat} {v : AV} {cs : List AV} {n : Nat} (hl : LAt h sz v cs n) (hk : ∀ i, isId v i → h'[i]? = h[i]?) : LAt h' sz v cs n := by
  obtain ⟨hc, ⟨rfl, rfl⟩ | ⟨id, ex, rfl, hh⟩⟩ := hl
  · exact ⟨hc, .inl ⟨rfl, rfl⟩⟩
  · exact ⟨hc, .inr ⟨id, ex, rfl, by rw [hk id rfl]; exact hh⟩⟩
theorem LAt.app {h : Heap} {sz : Nat} {v : AV} {cs : List AV} {n : Nat} (hl : LAt h sz v cs n) (G : Heap) : LAt (h ++ G) sz v cs n := by
  refine hl.keep fun i hi => ?_
  obtain ⟨hc, ⟨rfl, rfl⟩ | ⟨id, ex, rfl, hh⟩⟩ := hl
  · exact hi.elim
  · obtain rfl : id = i := hi
    rw [List.getElem?_append_left (List.getElem?_eq_some_iff.1 hh).1]
theorem LAt.lt {h : Heap} {sz : Nat} {v : AV} {cs : List AV} {n : Nat} (hl : LAt h sz v cs n) {i : Nat} (hi : isId v i) : i < h.length := by
  obtain ⟨hc, ⟨rfl, rfl⟩ | ⟨id, ex, rfl, hh⟩⟩ := hl
  · exact hi.elim
  · obtain rfl : id = i := hi
    exact (List.getElem?_eq_some_iff.1 hh).1
theorem LAt.sc {h : Heap} {sz : Nat} {v : AV} {cs : List AV} {n : Nat} (hl : LAt h sz v cs n) {m : Nat} (hm : h.length ≤ m) : v.sc m = true := by
  obtain ⟨hc, ⟨rfl, rfl⟩ | ⟨id, ex, rfl, hh⟩⟩ := hl
  · rfl
  · have := (List.getElem?_eq_some_iff.1 hh).1
    simp [AV.sc]; omega
/-- A list that is read, which may be nil. -/
def RAt (h : Heap) (sz : Nat) (v : AV) (cs : List AV) (n : Nat) : Prop :=
  cs.length = n * sz ∧ ((v = .nilslice ∧ n = 0) ∨ ∃ id off ex, v = .slice id off n sz ex ∧ rd h id off (n * sz) = some cs)
theorem LAt.r {h : Heap} {sz : Nat} {v : AV} {cs : List AV} {n : Nat} (hl : LAt h sz v cs n) : RAt h sz v cs n := by
  obtain ⟨hc, ⟨rfl, rfl⟩ | ⟨id, ex, rfl, hh⟩⟩ := hl
  · exact ⟨hc, .inl ⟨rfl, rfl⟩⟩
  · refine ⟨hc, .inr ⟨id, 0, ex, rfl, ?_⟩⟩
    simp only [rd, hh]
    rw [if_pos (by omega)]
    simp only [List.drop_zero, ← hc, List.take_length]
theorem RAt.len {h : Heap} {sz : Nat} {v : AV} {cs : List AV} {n : Nat} (hl : RAt h sz v cs n) (h0 : Heap) {ev : AOpd → AV} {x : AOpd} (hx : ev x = v) : (AOp.len x).den ev h0 = .ok True (.int .i64 n) h0 := by
  obtain ⟨hc, ⟨rfl, rfl⟩ | ⟨id, off, ex, rfl, hh⟩⟩ := hl <;> simp [AOp.den, hx]
theorem RAt.sc {h : Heap} {sz : Nat} {v : AV} {cs : List AV} {n : Nat} (hl : RAt h sz v cs n) {m : Nat} (hm : h.length ≤ m) : v.sc m = true := by
  obtain ⟨hc, ⟨rfl, rfl⟩ | ⟨id, off, ex, rfl, hh⟩⟩ := hl
  · rfl
  · have := rd_lt hh
    simp [AV.sc]; omega
theorem RAt.keep {h h' : Heap} {sz : Nat} {v : AV} {cs : List AV} {n : Nat} (hl : RAt h sz v cs n) (hk : ∀ i, isId v i → h'[i]? = h[i]?) : RAt h' sz v cs n := by
  obtain ⟨hc, ⟨rfl, rfl⟩ | ⟨id, off, ex, rfl, hh⟩⟩ := hl
  · exact ⟨hc, .inl ⟨rfl, rfl⟩⟩
  · refine ⟨hc, .inr ⟨id, off, ex, rfl, ?_⟩⟩
    have := hk id rfl
    unfold rd at hh ⊢
    rw [this]; exact hh
theorem RAt.lt {h : Heap} {sz : Nat} {v : AV} {cs : List AV} {n : Nat} (hl : RAt h sz v cs n) {i : Nat} (hi : isId v i) : i < h.length := by
  obtain ⟨hc, ⟨rfl, rfl⟩ | ⟨id, off, ex, rfl, hh⟩⟩ := hl
  · exact hi.elim
  · obtain rfl : id = i := hi
    exact rd_lt hh
theorem RAt.app {h : Heap} {sz : Nat} {v : AV} {cs : List AV} {n : Nat} (hl : RAt h sz v cs n) (G : Heap) : RAt (h ++ G) sz v cs n :=
  hl.keep fun i hi => by rw [List.getElem?_append_left (hl.lt hi)]
theorem RAt.cells {h : Heap} {sz : Nat} {v : AV} {cs : List AV} {n : Nat} (hl : RAt h sz v cs n) : sliceCells h sz v = some (n, cs) := by
  obtain ⟨hc, ⟨rfl, rfl⟩ | ⟨id, off, ex, rfl, hh⟩⟩ := hl
  · obtain rfl : cs = [] := by simpa using hc
    rfl
  · simp only [sliceCells, if_true, hh, Option.map_some]
theorem RAt.slice {h : Heap} {sz : Nat} {v : AV} {cs : List AV} {n : Nat} (hl : RAt h sz v cs n) (h0 : 0 < n) : ∃ id off ex, v = .slice id off n sz ex ∧ rd h id off (n * sz) = some cs := by
  obtain ⟨hc, ⟨rfl, rfl⟩ | h⟩ := hl
  · omega
  · exact h
def iv (l : List Int) : List AV := l.map (.int .i64)
/-- A list of numbers that is read. -/
def IAt (h : Heap) (v : AV) (l : List Int) : Prop := RAt h 1 v (iv l) l.length
theorem IAt.get {h : Heap} {v : AV} {l : List Int} (hl : IAt h v l) {i : Nat} (hi : i < l.length) : ∃ id off ex, v = .slice id off l.length 1 ex ∧ rd h id (off + i) 1 = some [.int .i64 l[i]] ∧ id < h.length := by
  obtain ⟨id, off, ex, rfl, hh⟩ := RAt.slice hl (by omega)
  refine ⟨id, off, ex, rfl, ?_, rd_lt hh⟩
  have e := rd_at hh hi
  rw [Nat.mul_one] at e
  rw [e]
  simp only [Nat.mul_one, iv, Option.some.injEq]
  apply List.ext_getElem
  · simp; omega
  · intro k h1 h2
    simp only [List.length_cons, List.length_nil] at h2
    obtain rfl : k = 0 := by omega
    simp
/-- A plan that is read: its lists. -/
def PlAt (h : Heap) (v : AV) (n : Nat) (L : Nat → List Int) : Prop :=
  ∃ (pid off : Nat) (ex : Bool) (vs : Nat → AV), v = .slice pid off n 1 ex ∧ rd h pid off (n * 1) = some ((List.range n).map vs) ∧ ∀ k, k < n → IAt h (vs k) (L k)
theorem PlAt.get {h : Heap} {v : AV} {n : Nat} {L : Nat → List Int} (hp : PlAt h v n L) : ∃ pid off ex, v = .slice pid off n 1 ex ∧ pid < h.length ∧ ∀ k, k < n → ∃ x, rd h pid (off + k) 1 = some [x] ∧ IAt h x (L k) := by
  obtain ⟨pid, off, ex, vs, rfl, hr, hv⟩ := hp
  refine ⟨pid, off, ex, rfl, rd_lt hr, fun k hk => ⟨vs k, ?_, hv k hk⟩⟩
  have e := rd_at hr hk
  rw [Nat.mul_one] at e
  rw [e]
  simp only [Nat.mul_one, Option.some.injEq]
  apply List.ext_getElem
  · simp; omega
  · intro j h1 h2
    simp only [List.length_cons, List.length_nil] at h2
    obtain rfl : j = 0 := by omega
    simp
theorem PlAt.app {h : Heap} {v : AV} {n : Nat} {L : Nat → List Int} (hp : PlAt h v n L) (G : Heap) : PlAt (h ++ G) v n L := by
  obtain ⟨pid, off, ex, vs, rfl, hr, hv⟩ := hp
  refine ⟨pid, off, ex, vs, rfl, ?_, fun k hk => (hv k hk).app G⟩
  have := rd_lt hr
  unfold rd at hr ⊢
  rw [List.getElem?_append_left this]; exact hr
end Go.Proofs
/- Lists that are made by appends, in a memory of any form. -/
namespace Go.Proofs
open Go.Abs
attribute [local simp] AOp.den AOpd.ev lk cellsOf rd_new rd_new0 rd_zero rd_succ wr_new wr_new0 wr_zero wr_succ splice fillA binA scal sliceCells List.length_append argsT AV.sc scL AObj.sc resV getAll AR.get AOp.slots opdSlots opdsSlots partSlots eqAt at_new0 at_new set_new0 set_new wrap64
set_option linter.unusedSimpArgs false
set_option linter.unusedVariables false
/-- A list made by appends, as it stands in memory: nothing, or one object. -/
def lsV (H : Heap) (sz n : Nat) : AV := if n = 0 then .nilslice else .slice H.length 0 n sz false
def lsO (n : Nat) (cs : List AV) : Heap := if n = 0 then [] else [AObj.cells cs true]
/-- A list that is made by appends. -/
def AAt (h : Heap) (sz : Nat) (v : AV) (cs : List AV) (n : Nat) : Prop :=
  cs.length = n * sz ∧ ((v = .nilslice ∧ n = 0) ∨ ∃ id, 0 < n ∧ v = .slice id 0 n sz false ∧ h[id]? = some (.cells cs true))
theorem AAt.l {h : Heap} {sz : Nat} {v : AV} {cs : List AV} {n : Nat} (hl : AAt h sz v cs n) : LAt h sz v cs n := by
  obtain ⟨hc, h1 | ⟨id, h0, rfl, hh⟩⟩ := hl
  · exact ⟨hc, .inl h1⟩
  · exact ⟨hc, .inr ⟨id, false, rfl, hh⟩⟩
theorem AAt.nil (h : Heap) (sz : Nat) : AAt h sz .nilslice [] 0 := ⟨by simp, .inl ⟨rfl, rfl⟩⟩
theorem AAt.of {h : Heap} {sz id : Nat} {cs : List AV} {n : Nat} (hl : LAt h sz (.slice id 0 n sz false) cs n) (h0 : 0 < n) : AAt h sz (.slice id 0 n sz false) cs n := by
  obtain ⟨hc, ⟨h1, _⟩ | ⟨i, ex, h1, hh⟩⟩ := hl
  · cases h1
  · cases h1; exact ⟨hc, .inr ⟨_, h0, rfl, hh⟩⟩
theorem AAt.app {h : Heap} {sz : Nat} {v : AV} {cs : List AV} {n : Nat} (hl : AAt h sz v cs n) (G : Heap) : AAt (h ++ G) sz v cs n := by
  obtain ⟨hc, h1 | ⟨id, h0, rfl, hh⟩⟩ := hl
  · exact ⟨hc, .inl h1⟩
  · exact ⟨hc, .inr ⟨id, h0, rfl, by rw [List.getElem?_append_left (List.getElem?_eq_some_iff.1 hh).1]; exact hh⟩⟩
end Go.Proofs
/- Lists and tracks that are compared. -/
namespace Go.Proofs
open Go.Abs
attribute [local simp] AOp.den AOpd.ev lk cellsOf rd_new rd_new0 rd_zero rd_succ wr_new wr_new0 wr_zero wr_succ splice fillA binA scal sliceCells List.length_append argsT AV.sc scL AObj.sc resV getAll AR.get AOp.slots opdSlots opdsSlots partSlots eqAt at_new0 at_new set_new0 set_new wrap64
set_option linter.unusedSimpArgs false
set_option linter.unusedVariables false
theorem RAt.row {h : Heap} {v : AV} {r : Nat → List AV} {k n : Nat} (hr : PlainRow k r) (hl : RAt h k v (avR r n) n) {i : Nat} (hi : i < n) : ∃ id off ex, v = .slice id off n k ex ∧ rd h id (off + i * k) k = some (r i) ∧ id < h.length := by
  obtain ⟨id, off, ex, rfl, hh⟩ := RAt.slice hl (by omega)
  refine ⟨id, off, ex, rfl, ?_, rd_lt hh⟩
  rw [rd_at hh hi, hr.row hi]
end Go.Proofs
/- The reference's speeds. -/
namespace Go.Proofs
open Go.Abs
attribute [local simp] AOp.den AOpd.ev lk cellsOf rd_new rd_new0 rd_zero rd_succ wr_new wr_new0 wr_zero wr_succ splice fillA binA scal sliceCells List.length_append argsT AV.sc scL AObj.sc resV getAll AR.get AOp.slots opdSlots opdsSlots partSlots eqAt at_new0 at_new set_new0 set_new wrap64
set_option linter.unusedSimpArgs false
set_option linter.unusedVariables false
end Go.Proofs
/- The reference's heads. -/
namespace Go.Proofs
open Go.Abs
attribute [local simp] AOp.den AOpd.ev lk cellsOf rd_new rd_new0 rd_zero rd_succ wr_new wr_new0 wr_zero wr_succ splice fillA binA scal sliceCells List.length_append argsT AV.sc scL AObj.sc resV getAll AR.get AOp.slots opdSlots opdsSlots partSlots eqAt at_new0 at_new set_new0 set_new wrap64
set_option linter.unusedSimpArgs false
set_option linter.unusedVariables false
end Go.Proofs
/- What the reference tells of sleds. -/
namespace Go.Proofs
open Go.Abs
attribute [local simp] AOp.den AOpd.ev lk cellsOf rd_new rd_new0 rd_zero rd_succ wr_new wr_new0 wr_zero wr_succ splice fillA binA scal sliceCells List.length_append argsT AV.sc scL AObj.sc resV getAll AR.get AOp.slots opdSlots opdsSlots partSlots eqAt at_new0 at_new set_new0 set_new wrap64
set_option linter.unusedSimpArgs false
set_option linter.unusedVariables false
theorem sav_eq (s : Sl) : s.av = [.int .u8 s.c, .int .i64 s.s1, .int .i64 s.s2, .int .i64 s.r1, .int .i64 s.r2, .int .i64 s.d1, .int .i64 s.d2, .int .i64 s.w1, .int .i64 s.w2, .int .i64 s.t1, .int .i64 s.t2] := rfl
end Go.Proofs
/- The law SlideHeads: errors of the program and of the reference. -/
namespace Go.Proofs
open Go.Abs
attribute [local simp] AOp.den AOpd.ev lk cellsOf rd_new rd_new0 rd_zero rd_succ wr_new wr_new0 wr_zero wr_succ splice fillA binA scal sliceCells List.length_append argsT AV.sc scL AObj.sc resV getAll AR.get AOp.slots opdSlots opdsSlots partSlots eqAt at_new0 at_new set_new0 set_new wrap64
set_option linter.unusedSimpArgs false
set_option linter.unusedVariables false
open Classical in
noncomputable def errS (l : List Str) (s : Sl) : Int := if ¬ validL l then 10 else if ¬ s.ok then 30 else 0
end Go.Proofs
/- The law SlideHeads: what the program and the reference tell alike. -/
namespace Go.Proofs
open Go.Abs
attribute [local simp] AOp.den AOpd.ev lk cellsOf rd_new rd_new0 rd_zero rd_succ wr_new wr_new0 wr_zero wr_succ splice fillA binA scal sliceCells List.length_append argsT AV.sc scL AObj.sc resV getAll AR.get AOp.slots opdSlots opdsSlots partSlots eqAt at_new0 at_new set_new0 set_new wrap64
set_option linter.unusedSimpArgs false
set_option linter.unusedVariables false
/-- What a call leaves that returns a list of spans and a number. -/
def spX (H : Heap) (n : Nat) (f g : Nat → Int) (e : Int) (v : AV) (h' : Heap) : Prop := ∃ (V : AV) (G : Heap), v = .tuple [V, .int .i64 e] ∧ h' = H ++ G ∧ RAt (H ++ G) 2 V (avR (r2 f g) n) n
end Go.Proofs
