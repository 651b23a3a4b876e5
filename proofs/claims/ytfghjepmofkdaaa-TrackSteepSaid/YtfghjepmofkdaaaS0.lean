/- Heads, speeds and heights of sleds: their arithmetic. -/
import Derived.Test.YtfghjepmofkdaaaCC
namespace Go.Proofs
open Go.Abs
attribute [local simp] AOp.den AOpd.ev lk cellsOf rd_new rd_new0 rd_zero rd_succ wr_new wr_new0 wr_zero wr_succ splice fillA binA scal sliceCells List.length_append argsT AV.sc scL AObj.sc resV getAll AR.get AOp.slots opdSlots opdsSlots partSlots eqAt at_new0 at_new set_new0 set_new wrap64
set_option linter.unusedSimpArgs false
set_option linter.unusedVariables false
/-- The head at the next mark, from that at a mark, the drag, length, fall, friction and weight. -/
def nx (h d L f r w : Int) : Int := max 0 (max 0 (h - h * (d * L) / (100 * w)) + f - r * L / 100)

/-- What is told of a sled. -/
structure Sl where
  c : Int
  s1 : Int
  s2 : Int
  r1 : Int
  r2 : Int
  d1 : Int
  d2 : Int
  w1 : Int
  w2 : Int
  t1 : Int
  t2 : Int
def Sl.av (s : Sl) : List AV := [.int .u8 s.c, .int .i64 s.s1, .int .i64 s.s2, .int .i64 s.r1, .int .i64 s.r2, .int .i64 s.d1, .int .i64 s.d2, .int .i64 s.w1, .int .i64 s.w2, .int .i64 s.t1, .int .i64 s.t2]
theorem Sl.av_length (s : Sl) : s.av.length = 11 := rfl
def Sl.ok (s : Sl) : Prop := (1 ≤ s.c ∧ s.c ≤ 3) ∧ (s.s1 ≤ s.s2 ∧ 0 ≤ s.s1 ∧ s.s2 ≤ 200000) ∧ (s.r1 ≤ s.r2 ∧ 0 ≤ s.r1 ∧ s.r2 ≤ 100) ∧ (s.d1 ≤ s.d2 ∧ 0 ≤ s.d1 ∧ s.d2 ≤ 1000) ∧ (s.w1 ≤ s.w2 ∧ 50000 ≤ s.w1 ∧ s.w2 ≤ 800000) ∧ (s.t1 ≤ s.t2 ∧ -500 ≤ s.t1 ∧ s.t2 ≤ 500)

/-- The upper end where it is the fastest truth. -/
def up (t : Bool) (lo hi : Int) : Int := if t = true then hi else lo
/-- The lower end where it is the fastest truth. -/
def dn (t : Bool) (lo hi : Int) : Int := if t = true then lo else hi
/-- The heads of a truth, told by its start, drag and weight, and by frictions, lengths and falls. -/
def hdG (st d w : Int) (r L f : Nat → Int) : Nat → Int
  | 0 => st
  | i + 1 => nx (hdG st d w r L f i) d (L i) (f i) (r i) w
/-- The heads of the fastest, or slowest, truth. -/
def hd (t : Bool) (s : Sl) (l : List Str) : Nat → Int :=
  hdG (up t s.s1 s.s2) (dn t s.d1 s.d2) (up t s.w1 s.w2) (fun _ => dn t s.r1 s.r2) (fun j => dn t (strAt l j).lLo (strAt l j).lHi) (fun j => up t (strAt l j).fLo (strAt l j).fHi)

/-- The head in a stretch: the greater one of both marks. -/
def wiF (h : Nat → Int) (j : Nat) : Int := max (h j) (h (j + 1))
/-- The height in a curve. -/
def htF (head rad steer : Int) : Int := 1200 * head / (10 * rad) + steer
end Go.Proofs
