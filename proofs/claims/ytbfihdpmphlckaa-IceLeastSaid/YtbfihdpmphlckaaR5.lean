/- Ice: hours that go on; the law's contract. -/
import Derived.Test.YtbfihdpmphlckaaRA
import Derived.Test.YtbfihdpmphlckaaRunIceAlive
namespace Go.Proofs
open Go.Abs
attribute [local simp] AOp.den AOpd.ev lk cellsOf rd_new rd_new0 rd_zero rd_succ wr_new wr_new0 wr_zero wr_succ splice fillA binA scal sliceCells List.length_append argsT AV.sc scL AObj.sc resV getAll AR.get AOp.slots opdSlots opdsSlots partSlots eqAt at_new0 at_new set_new0 set_new wrap64
set_option linter.unusedSimpArgs false
set_option linter.unusedVariables false
theorem c_aliveI (H : Heap) : ACalls Try.prog F.qbw [] H (fun v h=>v=.bool true∧h=H):=Try.true21 H
def Cv.later (c : Cv) (P : Nat→Nat→Bool) (k : Nat) : Cv :=
  { c with bs:=(List.range c.bs.length).map fun s=>⟨befF c (endT true c) P s k,befF c (endT false c) P s k,(c.b s).sun⟩,hs:=c.hs.drop k }
theorem later_h {c : Cv} {P : Nat→Nat→Bool} {k j : Nat} : (c.later P k).h j=c.h (k+j):=by
  simp [Cv.later,Cv.h,List.getD_eq_getElem?_getD,List.getElem?_drop]
theorem later_len {c : Cv} {P : Nat→Nat→Bool} {k : Nat} : (c.later P k).bs.length=c.bs.length:=by simp [Cv.later]
theorem PlAt.drop {h : Heap} {pid off n : Nat} {ex : Bool} {L : Nat→List Int} (hp : PlAt h (.slice pid off n 1 ex) n L) {k : Nat} (hk : k≤n) (ex' : Bool) : PlAt h (.slice pid (off+k) (n - k) 1 ex') (n - k) (fun j=>L (k+j)):=by
  obtain ⟨_,_,_,vs,e,hr,hv⟩:=hp
  cases e
  refine ⟨pid,off+k,ex',fun j=>vs (k+j),rfl,?_,fun j hj=>hv (k+j) (by omega)⟩
  have:=rd_sub' hr k ((n - k) * 1) (by omega)
  rw [this]
  congr 1
  apply List.ext_getElem
  · simp
  · intro i h1 h2; simp
theorem PlAt.take {h : Heap} {pid off n : Nat} {ex : Bool} {L : Nat→List Int} (hp : PlAt h (.slice pid off n 1 ex) n L) {k : Nat} (hk : k≤n) (ex' : Bool) : PlAt h (.slice pid off k 1 ex') k L:=by
  obtain ⟨_,_,_,vs,e,hr,hv⟩:=hp
  cases e
  refine ⟨pid,off,ex',vs,rfl,?_,fun j hj=>hv j (by omega)⟩
  have:=rd_sub' hr 0 (k * 1) (by omega)
  rw [Nat.add_zero] at this
  rw [this]
  congr 1
  apply List.ext_getElem
  · simp; omega
  · intro i h1 h2; simp
theorem okPl.later {c : Cv} {P : Nat→Nat→Bool} {k : Nat} {L : Nat→List Int} (h : okPl c L) : okPl (c.later P k) (fun j=>L (k+j)):=by
  intro j hj
  have hj2 : k+j < c.hs.length:=by simp [Cv.later] at hj; omega
  have:=h (k+j) hj2
  simp only [handsF,later_h,later_len] at this ⊢
  exact this
theorem okPl.till {c : Cv} {k : Nat} {L : Nat→List Int} (h : okPl c L) (hk : k≤c.hs.length) : okPl (c.till k) L:=by
  intro j hj
  have hj2 : j < k:=by simp [Cv.till] at hj; omega
  have:=h j (by omega)
  have e : (c.till k).h j=c.h j:=by
    rw [Cv.h_eq (by simp [Cv.till]; omega),Cv.h_eq (by omega)]
    simp [Cv.till]
  simp only [handsF,e] at this ⊢
  exact this
end Go.Proofs
