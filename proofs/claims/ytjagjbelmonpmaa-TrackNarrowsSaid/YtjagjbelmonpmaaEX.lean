/- Several texts as one. -/
import Derived.Test.YtjagjbelmonpmaaDD
/- Contracts: where a place may be. -/
namespace Go.Proofs
open Go.Abs
attribute [local simp] AOp.den AOpd.ev lk cellsOf rd_new rd_new0 rd_zero rd_succ wr_new wr_new0 wr_zero wr_succ splice fillA binA scal sliceCells List.length_append argsT AV.sc scL AObj.sc resV getAll AR.get AOp.slots opdSlots opdsSlots partSlots eqAt at_new0 at_new set_new0 set_new wrap64
set_option linter.unusedSimpArgs false
set_option linter.unusedVariables false
def avK (xs : List Nat) : List AV := xs.map fun k : Nat => .int .i64 (k : Int)
theorem avK_length (xs : List Nat) : (avK xs).length = xs.length := by simp [avK]
theorem avK_app (xs : List Nat) (k : Nat) : avK xs ++ [.int .i64 (k : Int)] = avK (xs ++ [k]) := by simp [avK]
theorem plain_one (x : Int) : Plain [.int .i64 x] := ⟨rfl, fun _ => rfl, fun _ => rfl⟩
theorem plainK : ∀ xs : List Nat, Plain (avK xs)
  | [] => Plain.nil
  | a :: r => (plain_one a).app (plainK r)
def pV (n : Nat) (xs : List Nat) : AV := if xs = [] then .nilslice else .slice n 0 xs.length 1 false
def pH (H : Heap) (xs : List Nat) : Heap := if xs = [] then H else H ++ [.cells (avK xs) true]
def selF (sel : Nat → Bool) (n : Nat) : List Nat := (List.range n).filter sel
theorem selF_succ (sel : Nat → Bool) (n : Nat) : selF sel (n + 1) = if sel n = true then selF sel n ++ [n] else selF sel n := by
  simp only [selF, List.range_succ, List.filter_append, List.filter_cons, List.filter_nil]
  split <;> simp
theorem selF_len (sel : Nat → Bool) (n : Nat) : (selF sel n).length ≤ n := by
  have := List.length_filter_le sel (List.range n)
  simpa [selF] using this

def plSel (l : List Str) (at_ : Int) (i : Nat) : Bool := decide (mLo l i ≤ at_ ∧ (i = l.length ∨ at_ < mHi l (i + 1)))
def plL_ (l : List Str) (at_ : Int) : List Nat := selF (plSel l at_) (l.length + 1)
end Go.Proofs
/- Lists that are appended to, in a memory of any form. -/
namespace Go.Proofs
open Go.Abs
attribute [local simp] AOp.den AOpd.ev lk cellsOf rd_new rd_new0 rd_zero rd_succ wr_new wr_new0 wr_zero wr_succ splice fillA binA scal sliceCells List.length_append argsT AV.sc scL AObj.sc resV getAll AR.get AOp.slots opdSlots opdsSlots partSlots eqAt at_new0 at_new set_new0 set_new wrap64
set_option linter.unusedSimpArgs false
set_option linter.unusedVariables false
/-- A list in memory that may be nil. -/
def LAt (h : Heap) (sz : Nat) (v : AV) (cs : List AV) (n : Nat) : Prop :=
  cs.length = n * sz ∧ ((v = .nilslice ∧ n = 0) ∨ ∃ id ex, v = .slice id 0 n sz ex ∧ h[id]? = some (.cells cs true))
def isId : AV → Nat → Prop
  | .slice id _ _ _ _, i => id = i
  | _, _ => False
theorem LAt.nil (h : Heap) (sz : Nat) : LAt h sz .nilslice [] 0 := ⟨by simp, .inl ⟨rfl, rfl⟩⟩
theorem LAt.of {h : Heap} {id : Nat} {cs : List AV} (hh : h[id]? = some (.cells cs true)) {n sz : Nat} (hc : cs.length = n * sz) (ex : Bool) : LAt h sz (.slice id 0 n sz ex) cs n := ⟨hc, .inr ⟨id, ex, rfl, hh⟩⟩
theorem LAt.cells {h : Heap} {sz : Nat} {v : AV} {cs : List AV} {n : Nat} (hl : LAt h sz v cs n) : sliceCells h sz v = some (n, cs) := by
  obtain ⟨hc, ⟨rfl, rfl⟩ | ⟨id, ex, rfl, hh⟩⟩ := hl
  · obtain rfl : cs = [] := by simpa using hc
    rfl
  · simp only [sliceCells, if_true, rd, hh]
    rw [if_pos (by omega)]
    simp only [List.drop_zero, Option.map_some, ← hc, List.take_length]
theorem LAt.len {h : Heap} {sz : Nat} {v : AV} {cs : List AV} {n : Nat} (hl : LAt h sz v cs n) {ev : AOpd → AV} {x : AOpd} (hx : ev x = v) : (AOp.len x).den ev h = .ok True (.int .i64 n) h := by
  obtain ⟨hc, ⟨rfl, rfl⟩ | ⟨id, ex, rfl, hh⟩⟩ := hl <;> simp [AOp.den, hx]
theorem LAt.keep {h h' : Heap} {sz : Nat} {v : AV} {cs : List AV} {n : Nat} (hl : LAt h sz v cs n) (hk : ∀ i, isId v i → h'[i]? = h[i]?) : LAt h' sz v cs n := by
  obtain ⟨hc, ⟨rfl, rfl⟩ | ⟨id, ex, rfl, hh⟩⟩ := hl
  · exact ⟨hc, .inl ⟨rfl, rfl⟩⟩
  · exact ⟨hc, .inr ⟨id, ex, rfl, by rw [hk id rfl]; exact hh⟩⟩
theorem LAt.app {h : Heap} {sz : Nat} {v : AV} {cs : List AV} {n : Nat} (hl : LAt h sz v cs n) (G : Heap) : LAt (h ++ G) sz v cs n := by
  refine hl.keep fun i hi => ?_
  obtain ⟨hc, ⟨rfl, rfl⟩ | ⟨id, ex, rfl, hh⟩⟩ := hl
  · exact hi.elim
  · obtain rfl : id = i := hi
    rw [List.getElem?_append_left (List.getElem?_eq_some_iff.1 hh).1]
theorem LAt.lt {h : Heap} {sz : Nat} {v : AV} {cs : List AV} {n : Nat} (hl : LAt h sz v cs n) {i : Nat} (hi : isId v i) : i < h.length := by
  obtain ⟨hc, ⟨rfl, rfl⟩ | ⟨id, ex, rfl, hh⟩⟩ := hl
  · exact hi.elim
  · obtain rfl : id = i := hi
    exact (List.getElem?_eq_some_iff.1 hh).1
theorem LAt.sc {h : Heap} {sz : Nat} {v : AV} {cs : List AV} {n : Nat} (hl : LAt h sz v cs n) {m : Nat} (hm : h.length ≤ m) : v.sc m = true := by
  obtain ⟨hc, ⟨rfl, rfl⟩ | ⟨id, ex, rfl, hh⟩⟩ := hl
  · rfl
  · have := (List.getElem?_eq_some_iff.1 hh).1
    simp [AV.sc]; omega
/-- What an append leaves: the old object is gone, a new one stands last. -/
theorem app_den {h : Heap} {sz bytes n m : Nat} {v w : AV} {cs new : List AV} {ev : AOpd → AV} {x y : AOpd} (hx : ev x = v) (hy : ev y = w) (hl : LAt h sz v cs n) (hw : sliceCells h sz w = some (m, new)) (hsc : new.all scal = true) (hb : (n + m) * bytes ≤ 140737488355328) :
    ∃ h1 : Heap, (AOp.append x y sz bytes).den ev h = .ok (new.all scal = true ∧ (n + m) * bytes ≤ 140737488355328 ∧ True) (.slice h.length 0 (n + m) sz false) (h1 ++ [.cells (cs ++ new) true]) ∧ h1.length = h.length ∧ (∀ i, ¬ isId v i → h1[i]? = h[i]?) ∨
    (AOp.append x y sz bytes).den ev h = .ok (new.all scal = true ∧ (n + m) * bytes ≤ 140737488355328) (.slice h.length 0 (n + m) sz false) (h1 ++ [.cells (cs ++ new) true]) ∧ h1.length = h.length ∧ (∀ i, ¬ isId v i → h1[i]? = h[i]?) := by
  have hcl := hl.cells
  obtain ⟨hc, ⟨rfl, rfl⟩ | ⟨id, ex, rfl, hh⟩⟩ := hl
  · obtain rfl : cs = [] := by simpa using hc
    refine ⟨h, .inr ⟨?_, rfl, fun _ _ => rfl⟩⟩
    simp only [AOp.den, hx, hy, hcl, hw, Nat.zero_add, List.nil_append]
  · refine ⟨h.set id .dead, .inl ⟨?_, by simp, fun i hi => ?_⟩⟩
    · simp only [AOp.den, hx, hy, hcl, hw, hh, and_true]
    · rw [List.getElem?_set_ne (by exact hi)]
theorem e_app {P : Program} {l : List AO} {K : St → Prop} {t : List (Nat × AV)} {h : Heap} {d sz bytes n m : Nat} {v w : AV} {cs new : List AV} {x y : AOpd}
    (hx : Red (x.ev t) v) (hy : Red (y.ev t) w) (hl : LAt h sz v cs n) (hw : sliceCells h sz w = some (m, new)) (hsc : new.all scal = true) (hb : (n + m) * bytes ≤ 140737488355328)
    (hn : ∀ h' : Heap, h'.length = h.length + 1 → (∀ i, i < h.length → ¬ isId v i → h'[i]? = h[i]?) → LAt h' sz (.slice h.length 0 (n + m) sz false) (cs ++ new) (n + m) → EOps P l K ((d, .slice h.length 0 (n + m) sz false) :: t) h') :
    EOps P (⟨some d, .append x y sz bytes, none⟩ :: l) K t h := by
  have hnl : new.length = m * sz := by
    cases w <;> simp only [sliceCells] at hw <;> try contradiction
    · split at hw
      · rename_i id off len sz' ex e
        simp only [Option.map_eq_some_iff] at hw
        obtain ⟨a, ha, hb⟩ := hw
        simp only [Prod.mk.injEq] at hb
        obtain ⟨rfl, rfl⟩ := hb
        unfold rd at ha
        split at ha
        · split at ha
          · simp only [Option.some.injEq] at ha
            subst ha
            simp only [List.length_take, List.length_drop]; omega
          · cases ha
        · cases ha
      · cases hw
    · simp only [Option.some.injEq, Prod.mk.injEq] at hw
      obtain ⟨rfl, rfl⟩ := hw
      simp
  have fin : ∀ h1 : Heap, h1.length = h.length → (∀ i, ¬ isId v i → h1[i]? = h[i]?) → EOps P l K ((d, .slice h.length 0 (n + m) sz false) :: t) (h1 ++ [.cells (cs ++ new) true]) := fun h1 e1 e2 => by
    refine hn _ (by simp [e1]) (fun i hi hv => ?_) (LAt.of (by rw [List.getElem?_append_right (by omega), e1]; simp) (by rw [List.length_append, hl.1, hnl, Nat.add_mul]) false)
    rw [List.getElem?_append_left (by omega)]; exact e2 i hv
  obtain ⟨h1, ⟨h2, e1, e2⟩ | ⟨h2, e1, e2⟩⟩ := app_den (bytes := bytes) hx hy hl hw hsc hb
  · exact e_op rfl h2 Red.rfl ⟨hsc, hb, trivial⟩ (fin h1 e1 e2)
  · exact e_op rfl h2 Red.rfl ⟨hsc, hb⟩ (fin h1 e1 e2)
/-- A list that is read, which may be nil. -/
def RAt (h : Heap) (sz : Nat) (v : AV) (cs : List AV) (n : Nat) : Prop :=
  cs.length = n * sz ∧ ((v = .nilslice ∧ n = 0) ∨ ∃ id off ex, v = .slice id off n sz ex ∧ rd h id off (n * sz) = some cs)
theorem LAt.r {h : Heap} {sz : Nat} {v : AV} {cs : List AV} {n : Nat} (hl : LAt h sz v cs n) : RAt h sz v cs n := by
  obtain ⟨hc, ⟨rfl, rfl⟩ | ⟨id, ex, rfl, hh⟩⟩ := hl
  · exact ⟨hc, .inl ⟨rfl, rfl⟩⟩
  · refine ⟨hc, .inr ⟨id, 0, ex, rfl, ?_⟩⟩
    simp only [rd, hh]
    rw [if_pos (by omega)]
    simp only [List.drop_zero, ← hc, List.take_length]
theorem RAt.len {h : Heap} {sz : Nat} {v : AV} {cs : List AV} {n : Nat} (hl : RAt h sz v cs n) (h0 : Heap) {ev : AOpd → AV} {x : AOpd} (hx : ev x = v) : (AOp.len x).den ev h0 = .ok True (.int .i64 n) h0 := by
  obtain ⟨hc, ⟨rfl, rfl⟩ | ⟨id, off, ex, rfl, hh⟩⟩ := hl <;> simp [AOp.den, hx]
theorem RAt.sc {h : Heap} {sz : Nat} {v : AV} {cs : List AV} {n : Nat} (hl : RAt h sz v cs n) {m : Nat} (hm : h.length ≤ m) : v.sc m = true := by
  obtain ⟨hc, ⟨rfl, rfl⟩ | ⟨id, off, ex, rfl, hh⟩⟩ := hl
  · rfl
  · have := rd_lt hh
    simp [AV.sc]; omega
theorem RAt.keep {h h' : Heap} {sz : Nat} {v : AV} {cs : List AV} {n : Nat} (hl : RAt h sz v cs n) (hk : ∀ i, isId v i → h'[i]? = h[i]?) : RAt h' sz v cs n := by
  obtain ⟨hc, ⟨rfl, rfl⟩ | ⟨id, off, ex, rfl, hh⟩⟩ := hl
  · exact ⟨hc, .inl ⟨rfl, rfl⟩⟩
  · refine ⟨hc, .inr ⟨id, off, ex, rfl, ?_⟩⟩
    have := hk id rfl
    unfold rd at hh ⊢
    rw [this]; exact hh
theorem RAt.lt {h : Heap} {sz : Nat} {v : AV} {cs : List AV} {n : Nat} (hl : RAt h sz v cs n) {i : Nat} (hi : isId v i) : i < h.length := by
  obtain ⟨hc, ⟨rfl, rfl⟩ | ⟨id, off, ex, rfl, hh⟩⟩ := hl
  · exact hi.elim
  · obtain rfl : id = i := hi
    exact rd_lt hh
theorem RAt.app {h : Heap} {sz : Nat} {v : AV} {cs : List AV} {n : Nat} (hl : RAt h sz v cs n) (G : Heap) : RAt (h ++ G) sz v cs n :=
  hl.keep fun i hi => by rw [List.getElem?_append_left (hl.lt hi)]
theorem RAt.cells {h : Heap} {sz : Nat} {v : AV} {cs : List AV} {n : Nat} (hl : RAt h sz v cs n) : sliceCells h sz v = some (n, cs) := by
  obtain ⟨hc, ⟨rfl, rfl⟩ | ⟨id, off, ex, rfl, hh⟩⟩ := hl
  · obtain rfl : cs = [] := by simpa using hc
    rfl
  · simp only [sliceCells, if_true, hh, Option.map_some]
theorem RAt.slice {h : Heap} {sz : Nat} {v : AV} {cs : List AV} {n : Nat} (hl : RAt h sz v cs n) (h0 : 0 < n) : ∃ id off ex, v = .slice id off n sz ex ∧ rd h id off (n * sz) = some cs := by
  obtain ⟨hc, ⟨rfl, rfl⟩ | h⟩ := hl
  · omega
  · exact h
def iv (l : List Int) : List AV := l.map (.int .i64)
/-- A list of numbers that is read. -/
def IAt (h : Heap) (v : AV) (l : List Int) : Prop := RAt h 1 v (iv l) l.length
theorem IAt.get {h : Heap} {v : AV} {l : List Int} (hl : IAt h v l) {i : Nat} (hi : i < l.length) : ∃ id off ex, v = .slice id off l.length 1 ex ∧ rd h id (off + i) 1 = some [.int .i64 l[i]] ∧ id < h.length := by
  obtain ⟨id, off, ex, rfl, hh⟩ := RAt.slice hl (by omega)
  refine ⟨id, off, ex, rfl, ?_, rd_lt hh⟩
  have e := rd_at hh hi
  rw [Nat.mul_one] at e
  rw [e]
  simp only [Nat.mul_one, iv, Option.some.injEq]
  apply List.ext_getElem
  · simp; omega
  · intro k h1 h2
    simp only [List.length_cons, List.length_nil] at h2
    obtain rfl : k = 0 := by omega
    simp
/-- A plan that is read: its lists. -/
def PlAt (h : Heap) (v : AV) (n : Nat) (L : Nat → List Int) : Prop :=
  ∃ (pid off : Nat) (ex : Bool) (vs : Nat → AV), v = .slice pid off n 1 ex ∧ rd h pid off (n * 1) = some ((List.range n).map vs) ∧ ∀ k, k < n → IAt h (vs k) (L k)
theorem PlAt.get {h : Heap} {v : AV} {n : Nat} {L : Nat → List Int} (hp : PlAt h v n L) : ∃ pid off ex, v = .slice pid off n 1 ex ∧ pid < h.length ∧ ∀ k, k < n → ∃ x, rd h pid (off + k) 1 = some [x] ∧ IAt h x (L k) := by
  obtain ⟨pid, off, ex, vs, rfl, hr, hv⟩ := hp
  refine ⟨pid, off, ex, rfl, rd_lt hr, fun k hk => ⟨vs k, ?_, hv k hk⟩⟩
  have e := rd_at hr hk
  rw [Nat.mul_one] at e
  rw [e]
  simp only [Nat.mul_one, Option.some.injEq]
  apply List.ext_getElem
  · simp; omega
  · intro j h1 h2
    simp only [List.length_cons, List.length_nil] at h2
    obtain rfl : j = 0 := by omega
    simp
theorem PlAt.app {h : Heap} {v : AV} {n : Nat} {L : Nat → List Int} (hp : PlAt h v n L) (G : Heap) : PlAt (h ++ G) v n L := by
  obtain ⟨pid, off, ex, vs, rfl, hr, hv⟩ := hp
  refine ⟨pid, off, ex, vs, rfl, ?_, fun k hk => (hv k hk).app G⟩
  have := rd_lt hr
  unfold rd at hr ⊢
  rw [List.getElem?_append_left this]; exact hr
end Go.Proofs
/- Lists that are made by appends, in a memory of any form. -/
namespace Go.Proofs
open Go.Abs
attribute [local simp] AOp.den AOpd.ev lk cellsOf rd_new rd_new0 rd_zero rd_succ wr_new wr_new0 wr_zero wr_succ splice fillA binA scal sliceCells List.length_append argsT AV.sc scL AObj.sc resV getAll AR.get AOp.slots opdSlots opdsSlots partSlots eqAt at_new0 at_new set_new0 set_new wrap64
set_option linter.unusedSimpArgs false
set_option linter.unusedVariables false
/-- A list made by appends, as it stands in memory: nothing, or one object. -/
def lsV (H : Heap) (sz n : Nat) : AV := if n = 0 then .nilslice else .slice H.length 0 n sz false
def lsO (n : Nat) (cs : List AV) : Heap := if n = 0 then [] else [AObj.cells cs true]
/-- A list that is made by appends. -/
def AAt (h : Heap) (sz : Nat) (v : AV) (cs : List AV) (n : Nat) : Prop :=
  cs.length = n * sz ∧ ((v = .nilslice ∧ n = 0) ∨ ∃ id, 0 < n ∧ v = .slice id 0 n sz false ∧ h[id]? = some (.cells cs true))
theorem AAt.l {h : Heap} {sz : Nat} {v : AV} {cs : List AV} {n : Nat} (hl : AAt h sz v cs n) : LAt h sz v cs n := by
  obtain ⟨hc, h1 | ⟨id, h0, rfl, hh⟩⟩ := hl
  · exact ⟨hc, .inl h1⟩
  · exact ⟨hc, .inr ⟨id, false, rfl, hh⟩⟩
theorem AAt.nil (h : Heap) (sz : Nat) : AAt h sz .nilslice [] 0 := ⟨by simp, .inl ⟨rfl, rfl⟩⟩
theorem AAt.of {h : Heap} {sz id : Nat} {cs : List AV} {n : Nat} (hl : LAt h sz (.slice id 0 n sz false) cs n) (h0 : 0 < n) : AAt h sz (.slice id 0 n sz false) cs n := by
  obtain ⟨hc, ⟨h1, _⟩ | ⟨i, ex, h1, hh⟩⟩ := hl
  · cases h1
  · cases h1; exact ⟨hc, .inr ⟨_, h0, rfl, hh⟩⟩
theorem AAt.app {h : Heap} {sz : Nat} {v : AV} {cs : List AV} {n : Nat} (hl : AAt h sz v cs n) (G : Heap) : AAt (h ++ G) sz v cs n := by
  obtain ⟨hc, h1 | ⟨id, h0, rfl, hh⟩⟩ := hl
  · exact ⟨hc, .inl h1⟩
  · exact ⟨hc, .inr ⟨id, h0, rfl, by rw [List.getElem?_append_left (List.getElem?_eq_some_iff.1 hh).1]; exact hh⟩⟩
theorem ls_at (H : Heap) {sz n : Nat} {cs : List AV} (hc : cs.length = n * sz) : AAt (H ++ lsO n cs) sz (lsV H sz n) cs n := by
  by_cases h0 : n = 0
  · subst h0; exact ⟨hc, .inl ⟨rfl, rfl⟩⟩
  · refine ⟨hc, .inr ⟨H.length, by omega, by simp [lsV, h0], ?_⟩⟩
    simp [lsO, h0]
theorem le_ls {H G : Heap} {n sz : Nat} {cs : List AV} {v : AV} (f : AV → AV) (hf : ∀ x ρ, (f x).ren ρ = f (x.ren ρ)) (hfs : ∀ x m, x.sc m = true → (f x).sc m = true) (hcs : Plain cs) (hl : AAt (H ++ G) sz v cs n) (hb : ∀ i, isId v i → H.length ≤ i) :
    Le H ⟨[(0, f v)], H ++ G⟩ ⟨[(0, f (lsV H sz n))], H ++ lsO n cs⟩ := by
  obtain ⟨hc, ⟨rfl, rfl⟩ | ⟨id, h0, rfl, hh⟩⟩ := hl
  · simp only [lsV, lsO, if_true, List.append_nil]
    exact le_drop (by simpa [lk] using hfs _ _ rfl)
  · have h1 := hb id rfl
    rw [List.getElem?_append_right h1] at hh
    have hn : ¬ n = 0 := by omega
    simp only [lsV, lsO, if_neg hn]
    refine le_plain [id - H.length] [AObj.cells cs true] (by simp) (by simp [hh]) (by intro o ho; simp only [List.mem_singleton] at ho; subst ho; exact hcs.o true) ?_
    intro x hx
    simp only [List.mem_singleton] at hx
    subst hx
    refine ⟨hfs _ _ (by simp [AV.sc]), ?_⟩
    simp only [lk, if_true, hf, AV.ren]
    congr 2
    simp [sh]; omega
theorem ext_of {A h' : Heap} (hl : A.length ≤ h'.length) (hk : ∀ i, i < A.length → h'[i]? = A[i]?) : ∃ G, h' = A ++ G := by
  refine ⟨h'.drop A.length, ?_⟩
  apply List.ext_getElem?
  intro i
  rcases Nat.lt_or_ge i A.length with h | h
  · rw [hk i h, List.getElem?_append_left h]
  · rw [List.getElem?_append_right h, List.getElem?_drop]; congr 1; omega

theorem e_appA {P : Program} {l : List AO} {K : St → Prop} {t : List (Nat × AV)} {h A G : Heap} {d sz bytes n m : Nat} {v w : AV} {cs new : List AV} {x y : AOpd} (he : h = A ++ G)
    (hx : Red (x.ev t) v) (hy : Red (y.ev t) w) (hl : AAt h sz v cs n) (hvi : ∀ i, isId v i → A.length ≤ i) (hw : sliceCells h sz w = some (m, new)) (hsc : new.all scal = true) (hb : (n + m) * bytes ≤ 140737488355328) (h0 : 0 < n + m)
    (hn : ∀ (G' : Heap) (v' : AV), AAt (A ++ G') sz v' (cs ++ new) (n + m) → (∀ i, isId v' i → A.length ≤ i) → (∀ i, i < h.length → ¬ isId v i → (A ++ G')[i]? = h[i]?) → (∀ i, isId v' i → h.length ≤ i) → h.length ≤ (A ++ G').length → EOps P l K ((d, v') :: t) (A ++ G')) :
    EOps P (⟨some d, .append x y sz bytes, none⟩ :: l) K t h := by
  refine e_app hx hy hl.l hw hsc hb fun h2 e1 e2 e3 => ?_
  have hA : A.length ≤ h.length := by rw [he]; simp
  obtain ⟨G2, rfl⟩ := ext_of (A := A) (h' := h2) (by omega) (by
    intro k hk
    rw [e2 k (by omega) (fun hid => by have := hvi k hid; omega), he, List.getElem?_append_left hk])
  refine hn G2 _ (AAt.of e3 h0) (fun i hi => ?_) (fun i hi hv => e2 i hi hv) (fun i hi => ?_) (by omega)
  · have : h.length = i := hi
    omega
  · have : h.length = i := hi
    omega
end Go.Proofs
/- Lists and tracks that are compared. -/
namespace Go.Proofs
open Go.Abs
attribute [local simp] AOp.den AOpd.ev lk cellsOf rd_new rd_new0 rd_zero rd_succ wr_new wr_new0 wr_zero wr_succ splice fillA binA scal sliceCells List.length_append argsT AV.sc scL AObj.sc resV getAll AR.get AOp.slots opdSlots opdsSlots partSlots eqAt at_new0 at_new set_new0 set_new wrap64
set_option linter.unusedSimpArgs false
set_option linter.unusedVariables false
theorem c_r1SameInts (H : Heap) (a b : AV) (l : List Int) (ha : IAt H a l) (hb : IAt H b l) (hn : (l.length : Int) < 1000000) : ACalls Try.prog F.ref01_SameInts [a, b] H (fun v h' => v = .bool true ∧ h' = H) := by
  have hsa : ∀ k, a.sc (H.length + k) = true := fun k => RAt.sc ha (by omega)
  have hsb : ∀ k, b.sc (H.length + k) = true := fun k => RAt.sc hb (by omega)
  refine acalls_of ok_ref01_SameInts rfl fun hcl => ?_
  unfold ac_ref01_SameInts
  simp only [argsT, Nat.zero_add, Nat.reduceAdd]
  repeat (first|(with_reducible first|apply X1|apply X2|apply X8)|((with_reducible apply e_end);(simp;exact Red.rfl))|((with_reducible apply O1);rfl;(simp (disch:=omega);exact Red.rfl);exact Red.rfl;(focus (first|(simp;done)|omega|(simp;omega)))))
  (with_reducible apply e_op); rfl; exact RAt.len ha _ (by simp); exact Red.rfl; trivial
  repeat ((with_reducible apply O1);rfl;(simp (disch:=omega);exact Red.rfl);exact Red.rfl;(focus (first|(simp;done)|omega|(simp;omega))))
  (with_reducible apply e_op); rfl; exact RAt.len hb _ (by simp); exact Red.rfl; trivial
  repeat (first|(with_reducible first|apply X1|apply X2|apply X5|apply X6|apply X8)|((with_reducible apply e_end);(simp;exact Red.rfl))|((with_reducible apply O1);rfl;(simp (disch:=omega);exact Red.rfl);exact Red.rfl;(focus (first|(simp;done)|omega|(simp;omega))))|((with_reducible apply W3);(simp (disch:=omega);exact Red.rfl)))
  refine e_loop (ι := { i : Nat // i ≤ l.length }) (fun i => [(0, a), (1, b), (5, .int .i64 i.1)]) (fun _ => H) (fun i => l.length - i.1) ⟨0, by simp⟩ ?_ ?_
  · exact .inr <| le_id (by simp; exact ⟨hsa 0, hsb 0⟩)
  · rintro ⟨i, hi⟩
    dsimp only
    repeat (first|(with_reducible first|apply X1|apply X2)|((with_reducible apply O1);rfl;(simp (disch:=omega);exact Red.rfl);exact Red.rfl;(focus (first|(simp;done)|omega|(simp;omega)))))
    (with_reducible apply e_op); rfl; exact RAt.len ha _ (by simp); exact Red.rfl; trivial
    by_cases hlt : i < l.length
    · have hlt2 : (i : Int) < l.length := by omega
      obtain ⟨id, off, ex, rfl, hx, hid⟩ := IAt.get ha hlt
      obtain ⟨id', off', ex', rfl, hx', hid'⟩ := IAt.get hb hlt
      repeat (first|(with_reducible first|apply X1|apply X2|apply X5|apply X6|apply X8|apply Y2|apply Y9)|((with_reducible first|apply e_end|apply d_end);(simp;exact Red.rfl))|((first|((with_reducible apply O1);rfl)|((with_reducible apply P1);rfl)|((with_reducible apply P2);rfl));(simp (disch:=omega) [hlt, hlt2, hx, hx'];exact Red.rfl);exact Red.rfl;(focus (first|(simp;done)|omega|(simp;omega))))|((with_reducible apply Z9);(simp (disch:=omega) [hlt, hlt2, hx, hx'];exact Red.rfl))|((with_reducible apply W3);(simp (disch:=omega) [hlt, hlt2, hx, hx'];exact Red.rfl)))
      exact q_again ⟨i + 1, hlt⟩ (by dsimp only; omega) (.inl (by simp))
    · have hlt2 : ¬ (i : Int) < l.length := by omega
      repeat (first|(with_reducible first|apply X1|apply X2|apply X3|apply X4|apply X8|apply Y1|apply Y4|apply Y6)|((with_reducible apply e_end);(simp;exact Red.rfl))|((with_reducible apply O1);rfl;(simp (disch:=omega) [hlt2];exact Red.rfl);exact Red.rfl;(focus (first|(simp;done)|omega|(simp;omega))))|((with_reducible apply W3);(simp (disch:=omega) [hlt2];exact Red.rfl)))
      refine q_stay (.inr rfl) (by simp; exact Red.rfl) ⟨rfl, rfl⟩
theorem RAt.row {h : Heap} {v : AV} {r : Nat → List AV} {k n : Nat} (hr : PlainRow k r) (hl : RAt h k v (avR r n) n) {i : Nat} (hi : i < n) : ∃ id off ex, v = .slice id off n k ex ∧ rd h id (off + i * k) k = some (r i) ∧ id < h.length := by
  obtain ⟨id, off, ex, rfl, hh⟩ := RAt.slice hl (by omega)
  refine ⟨id, off, ex, rfl, ?_, rd_lt hh⟩
  rw [rd_at hh hi, hr.row hi]
end Go.Proofs
