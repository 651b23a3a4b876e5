/- Several texts as one. -/
import Derived.Test.YtdjneegacogklaaSC
import Derived.Test.YtdjneegacogklaaDD
import Derived.Test.YtdjneegacogklaaXA
/- SlideMore: wider spans, and better sleds. -/
namespace Go.Proofs
open Go.Abs
attribute [local simp] AOp.den AOpd.ev lk cellsOf rd_new rd_new0 rd_zero rd_succ wr_new wr_new0 wr_zero wr_succ splice fillA binA scal sliceCells List.length_append argsT AV.sc scL AObj.sc resV getAll AR.get AOp.slots opdSlots opdsSlots partSlots eqAt at_new0 at_new set_new0 set_new wrap64
set_option linter.unusedSimpArgs false
set_option linter.unusedVariables false
def Wid (s s' : Sl) : Prop := (s'.s1 ≤ s.s1 ∧ s.s2 ≤ s'.s2) ∧ (s'.r1 ≤ s.r1 ∧ s.r2 ≤ s'.r2) ∧ (s'.d1 ≤ s.d1 ∧ s.d2 ≤ s'.d2) ∧ (s'.w1 ≤ s.w1 ∧ s.w2 ≤ s'.w2) ∧ (s'.t1 ≤ s.t1 ∧ s.t2 ≤ s'.t2)
theorem Wid.rfl' (s : Sl) : Wid s s := by simp [Wid]
def WidL (l l' : List Str) : Prop := l'.length = l.length ∧ ∀ j, j < l.length → (strAt l' j).side = (strAt l j).side ∧ (strAt l' j).rLo = (strAt l j).rLo ∧ (strAt l' j).rHi = (strAt l j).rHi ∧ (strAt l' j).lLo ≤ (strAt l j).lLo ∧ (strAt l j).lHi ≤ (strAt l' j).lHi ∧ (strAt l' j).fLo ≤ (strAt l j).fLo ∧ (strAt l j).fHi ≤ (strAt l' j).fHi
theorem WidL.rfl' (l : List Str) : WidL l l := ⟨rfl, fun _ _ => by simp⟩
theorem heads_wid {l l' : List Str} {s s' : Sl} (hv : validL l) (hv' : validL l') (hk : s.ok) (hk' : s'.ok) (hw : Wid s s') (hl : WidL l l') {i : Nat} (hi : i ≤ l.length) : hd false s' l' i ≤ hd false s l i ∧ hd true s l i ≤ hd true s' l' i := by
  obtain ⟨a0, a1, a2, a3, a4, a5⟩ := hk
  obtain ⟨b0, b1, b2, b3, b4, b5⟩ := hk'
  obtain ⟨c1, c2, c3, c4, c5⟩ := hw
  have o1 : ∀ j, j < l.length → _ := fun j hj => str_ok hv hj
  have o2 : ∀ j, j < l.length → _ := fun j hj => str_ok hv' (j := j) (by rw [hl.1]; exact hj)
  have f1 := hdG_mono (st := s'.s1) (st' := s.s1) (d := s'.d2) (d' := s.d2) (w := s'.w1) (w' := s.w1) (r := fun _ => s'.r2) (r' := fun _ => s.r2) (L := fun j => (strAt l' j).lHi) (L' := fun j => (strAt l j).lHi) (f := fun j => (strAt l' j).fLo) (f' := fun j => (strAt l j).fLo) (n := l.length)
    (by omega) (by omega) (by omega) (by omega) (by omega) (by omega) (fun j _ => by omega) (fun j hj => by have h1 := (o1 j hj).2.2.1; have h2 := (hl.2 j hj); omega) (fun j hj => by have h2 := (hl.2 j hj); omega) i hi
  have f2 := hdG_mono (st := s.s2) (st' := s'.s2) (d := s.d1) (d' := s'.d1) (w := s.w2) (w' := s'.w2) (r := fun _ => s.r1) (r' := fun _ => s'.r1) (L := fun j => (strAt l j).lLo) (L' := fun j => (strAt l' j).lLo) (f := fun j => (strAt l j).fHi) (f' := fun j => (strAt l' j).fHi) (n := l.length)
    (by omega) (by omega) (by omega) (by omega) (by omega) (by omega) (fun j _ => by omega) (fun j hj => by have h1 := (o2 j hj).2.2.1; have h2 := (hl.2 j hj); omega) (fun j hj => by have h2 := (hl.2 j hj); omega) i hi
  exact ⟨f1.2, f2.2⟩
theorem height_wid {l l' : List Str} {s s' : Sl} (hv : validL l) (hv' : validL l') (hk : s.ok) (hk' : s'.ok) (hw : Wid s s') (hl : WidL l l') {i : Nat} (hi : i < l.length) (hs : (strAt l i).side ≠ 0) :
    htF (wiF (hd false s' l') i) (strAt l' i).rHi s'.t1 ≤ htF (wiF (hd false s l) i) (strAt l i).rHi s.t1 ∧ htF (wiF (hd true s l) i) (strAt l i).rLo s.t2 ≤ htF (wiF (hd true s' l') i) (strAt l' i).rLo s'.t2 := by
  have hR := curve_rad hv hi hs
  obtain ⟨e1, e2, e3, _⟩ := hl.2 i hi
  have h1 := heads_wid hv hv' hk hk' hw hl (show i ≤ l.length by omega)
  have h2 := heads_wid hv hv' hk hk' hw hl (show i + 1 ≤ l.length by omega)
  have w1 := wi_bd hv' hk' false (i := i) (by rw [hl.1]; exact hi)
  have w2 := wi_bd hv hk true hi
  rw [e2, e3]
  refine ⟨ht_mono w1.1 (by simp only [wiF]; omega) (by omega) (Int.le_refl _) hw.2.2.2.2.1, ht_mono w2.1 (by simp only [wiF]; omega) (by omega) (Int.le_refl _) hw.2.2.2.2.2⟩
def Bet (s b : Sl) : Prop := (s.s1 ≤ b.s1 ∧ s.s2 ≤ b.s2) ∧ (b.r1 ≤ s.r1 ∧ b.r2 ≤ s.r2) ∧ (b.d1 ≤ s.d1 ∧ b.d2 ≤ s.d2) ∧ (s.w1 ≤ b.w1 ∧ s.w2 ≤ b.w2)
theorem heads_bet {l : List Str} {s b : Sl} (hv : validL l) (hk : s.ok) (hk' : b.ok) (hb : Bet s b) (t : Bool) {i : Nat} (hi : i ≤ l.length) : hd t s l i ≤ hd t b l i := by
  obtain ⟨a0, a1, a2, a3, a4, a5⟩ := hk
  obtain ⟨b0, b1, b2, b3, b4, b5⟩ := hk'
  obtain ⟨c1, c2, c3, c4⟩ := hb
  have o1 : ∀ j, j < l.length → _ := fun j hj => str_ok hv hj
  have f1 := hdG_mono (st := up t s.s1 s.s2) (st' := up t b.s1 b.s2) (d := dn t s.d1 s.d2) (d' := dn t b.d1 b.d2) (w := up t s.w1 s.w2) (w' := up t b.w1 b.w2) (r := fun _ => dn t s.r1 s.r2) (r' := fun _ => dn t b.r1 b.r2) (L := fun j => dn t (strAt l j).lLo (strAt l j).lHi) (L' := fun j => dn t (strAt l j).lLo (strAt l j).lHi) (f := fun j => up t (strAt l j).fLo (strAt l j).fHi) (f' := fun j => up t (strAt l j).fLo (strAt l j).fHi) (n := l.length)
    (by cases t <;> simp [up] <;> omega) (by cases t <;> simp [up] <;> omega) (by cases t <;> simp [dn] <;> omega) (by cases t <;> simp [dn] <;> omega) (by cases t <;> simp [up] <;> omega) (by cases t <;> simp [up] <;> omega) (fun j _ => by cases t <;> simp [dn] <;> omega) (fun j hj => by have h1 := (o1 j hj).2.2.1; cases t <;> simp [dn] <;> omega) (fun j hj => Int.le_refl _) i hi
  exact f1.2
def wiS2 (s : Sl) (k : Nat) (lo : Bool) (b : Int) : Sl :=
  match k, lo with
  | 0, true => { s with s1 := s.s1 - b }
  | 0, false => { s with s2 := s.s2 + b }
  | 1, true => { s with r1 := s.r1 - b }
  | 1, false => { s with r2 := s.r2 + b }
  | 2, true => { s with d1 := s.d1 - b }
  | 2, false => { s with d2 := s.d2 + b }
  | 3, true => { s with w1 := s.w1 - b }
  | 3, false => { s with w2 := s.w2 + b }
  | _, true => { s with t1 := s.t1 - b }
  | _, false => { s with t2 := s.t2 + b }
theorem wid_wider (s : Sl) (k : Nat) (lo : Bool) {b : Int} (hb : 0 ≤ b) : Wid s (wiS2 s k lo b) := by
  rcases k with _ | _ | _ | _ | k <;> cases lo <;> simp only [wiS2, Wid] <;> omega
theorem wiS2_c (s : Sl) (k : Nat) (lo : Bool) (b : Int) : (wiS2 s k lo b).c = s.c := by
  rcases k with _ | _ | _ | _ | k <;> cases lo <;> rfl
/-- A better sled. -/
def beS (s : Sl) (w : Nat) (n : Int) : Sl :=
  if w = 0 then { s with w1 := s.w1 + 100 * n, w2 := s.w2 + 100 * n } else if w = 1 then { s with r1 := s.r1 - n % 9, r2 := s.r2 - n % 9 } else if w = 2 then { s with d1 := s.d1 - n % 99, d2 := s.d2 - n % 99 } else { s with s1 := s.s1 + n, s2 := s.s2 + n }
theorem bet_be (s : Sl) (w : Nat) {n : Int} (hn : 0 ≤ n) : Bet s (beS s w n) := by
  unfold beS
  split
  · simp only [Bet]; omega
  · split
    · simp only [Bet]; omega
    · split
      · simp only [Bet]; omega
      · simp only [Bet]; omega
def widX (w : Nat) (x : Str) (n : Int) : Str := if w = 0 then { x with lHi := x.lHi + n } else { x with fHi := x.fHi + n }
def widT (l : List Str) (k w : Nat) (n : Int) : List Str := listS (updS (strAt l) k (widX w (strAt l k) n)) l.length
theorem widT_len (l : List Str) (k w : Nat) (n : Int) : (widT l k w n).length = l.length := listS_length _ _
theorem widT_wid (l : List Str) (k w : Nat) {n : Int} (hn : 0 ≤ n) : WidL l (widT l k w n) := by
  refine ⟨widT_len l k w n, fun j hj => ?_⟩
  rw [widT, listS_get _ hj]
  by_cases hjk : j = k
  · subst hjk
    rw [updS_i]
    unfold widX
    split
    · simp; omega
    · simp; omega
  · rw [updS_ne _ _ hjk]; simp
end Go.Proofs
/- A sled with a wider span of something. -/
namespace Go.Proofs
open Go.Abs
attribute [local simp] AOp.den AOpd.ev lk cellsOf rd_new rd_new0 rd_zero rd_succ wr_new wr_new0 wr_zero wr_succ splice fillA binA scal sliceCells List.length_append argsT AV.sc scL AObj.sc resV getAll AR.get AOp.slots opdSlots opdsSlots partSlots eqAt at_new0 at_new set_new0 set_new wrap64
set_option linter.unusedSimpArgs false
set_option linter.unusedVariables false
set_option maxHeartbeats 8000000 in
theorem c_wider (H : Heap) (s : Sl) (what : Nat) (b : Int) (hw : what ≤ 255) (hb : 0 ≤ b ∧ b ≤ 400) (hk : s.ok) :
    ACalls Try.prog F.law03_wider [.agg s.av, .int .i64 what, .int .i64 b] H (fun v h' => v = .agg (wiS2 s (what % 5) (decide (what / 8 % 2 = 0)) b).av ∧ h' = H) := by
  obtain ⟨k0, k1, k2, k3, k4, k5⟩ := hk
  obtain ⟨sc, s1, s2, r1, r2, d1, d2, w1, w2, t1, t2⟩ := s
  simp only [Sl.av] at k0 k1 k2 k3 k4 k5 ⊢
  have h5 : (what : Int).tmod 5 = ((what % 5 : Nat) : Int) := by rw [Int.tmod_eq_emod_of_nonneg (by omega)]; omega
  have h8 : ((what : Int) / 8).tmod 2 = ((what / 8 % 2 : Nat) : Int) := by
    rw [Int.tmod_eq_emod_of_nonneg (by omega)]; omega
  have hm : what % 5 = 0 ∨ what % 5 = 1 ∨ what % 5 = 2 ∨ what % 5 = 3 ∨ what % 5 = 4 := by omega
  have hl : what / 8 % 2 = 0 ∨ what / 8 % 2 = 1 := by omega
  generalize hq : what / 8 % 2 = q at h8 hl ⊢
  generalize hp : what % 5 = p at h5 hm ⊢
  refine acalls_of ok_law03_wider rfl fun hcl => ?_
  unfold ac_law03_wider
  simp only [argsT, Nat.zero_add, Nat.reduceAdd]
  rcases hm with rfl | rfl | rfl | rfl | rfl
  · rcases hl with rfl | rfl
    · repeat (first|(with_reducible first|apply X1|apply X2|apply X3|apply X8)|((with_reducible apply e_end);(simp;exact Red.rfl))|((first|((with_reducible apply O1);rfl)|((with_reducible apply O2);rfl));(simp (disch:=omega) [h5, h8, wiS2];exact Red.rfl);exact Red.rfl;(focus (first|(simp;done)|omega|(simp;omega))))|((with_reducible apply Z9);(simp (disch:=omega) [h5, h8, wiS2];exact Red.rfl)))
      refine q_drop (.inr rfl) (by simp; exact Red.rfl) (by simp) ⟨rfl, rfl⟩
    · repeat (first|(with_reducible first|apply X1|apply X2|apply X3|apply X8)|((with_reducible apply e_end);(simp;exact Red.rfl))|((first|((with_reducible apply O1);rfl)|((with_reducible apply O2);rfl));(simp (disch:=omega) [h5, h8, wiS2];exact Red.rfl);exact Red.rfl;(focus (first|(simp;done)|omega|(simp;omega))))|((with_reducible apply W3);(simp (disch:=omega) [h5, h8, wiS2];exact Red.rfl)))
      refine q_drop (.inr rfl) (by simp; exact Red.rfl) (by simp) ⟨rfl, rfl⟩
  · rcases hl with rfl | rfl
    · repeat (first|(with_reducible first|apply X1|apply X2|apply X3|apply X8)|((with_reducible apply e_end);(simp;exact Red.rfl))|((first|((with_reducible apply O1);rfl)|((with_reducible apply O2);rfl));(simp (disch:=omega) [h5, h8, wiS2];exact Red.rfl);exact Red.rfl;(focus (first|(simp;done)|omega|(simp;omega))))|((with_reducible apply Z9);(simp (disch:=omega) [h5, h8, wiS2];exact Red.rfl)))
      refine q_drop (.inr rfl) (by simp; exact Red.rfl) (by simp) ⟨rfl, rfl⟩
    · repeat (first|(with_reducible first|apply X1|apply X2|apply X3|apply X8)|((with_reducible apply e_end);(simp;exact Red.rfl))|((first|((with_reducible apply O1);rfl)|((with_reducible apply O2);rfl));(simp (disch:=omega) [h5, h8, wiS2];exact Red.rfl);exact Red.rfl;(focus (first|(simp;done)|omega|(simp;omega))))|((with_reducible apply W3);(simp (disch:=omega) [h5, h8, wiS2];exact Red.rfl)))
      refine q_drop (.inr rfl) (by simp; exact Red.rfl) (by simp) ⟨rfl, rfl⟩
  · rcases hl with rfl | rfl
    · repeat (first|(with_reducible first|apply X1|apply X2|apply X3|apply X8)|((with_reducible apply e_end);(simp;exact Red.rfl))|((first|((with_reducible apply O1);rfl)|((with_reducible apply O2);rfl));(simp (disch:=omega) [h5, h8, wiS2];exact Red.rfl);exact Red.rfl;(focus (first|(simp;done)|omega|(simp;omega))))|((with_reducible apply Z9);(simp (disch:=omega) [h5, h8, wiS2];exact Red.rfl)))
      refine q_drop (.inr rfl) (by simp; exact Red.rfl) (by simp) ⟨rfl, rfl⟩
    · repeat (first|(with_reducible first|apply X1|apply X2|apply X3|apply X8)|((with_reducible apply e_end);(simp;exact Red.rfl))|((first|((with_reducible apply O1);rfl)|((with_reducible apply O2);rfl));(simp (disch:=omega) [h5, h8, wiS2];exact Red.rfl);exact Red.rfl;(focus (first|(simp;done)|omega|(simp;omega))))|((with_reducible apply W3);(simp (disch:=omega) [h5, h8, wiS2];exact Red.rfl)))
      refine q_drop (.inr rfl) (by simp; exact Red.rfl) (by simp) ⟨rfl, rfl⟩
  · rcases hl with rfl | rfl
    · repeat (first|(with_reducible first|apply X1|apply X2|apply X3|apply X8)|((with_reducible apply e_end);(simp;exact Red.rfl))|((first|((with_reducible apply O1);rfl)|((with_reducible apply O2);rfl));(simp (disch:=omega) [h5, h8, wiS2];exact Red.rfl);exact Red.rfl;(focus (first|(simp;done)|omega|(simp;omega))))|((with_reducible apply Z9);(simp (disch:=omega) [h5, h8, wiS2];exact Red.rfl)))
      refine q_drop (.inr rfl) (by simp; exact Red.rfl) (by simp) ⟨rfl, rfl⟩
    · repeat (first|(with_reducible first|apply X1|apply X2|apply X3|apply X8)|((with_reducible apply e_end);(simp;exact Red.rfl))|((first|((with_reducible apply O1);rfl)|((with_reducible apply O2);rfl));(simp (disch:=omega) [h5, h8, wiS2];exact Red.rfl);exact Red.rfl;(focus (first|(simp;done)|omega|(simp;omega))))|((with_reducible apply W3);(simp (disch:=omega) [h5, h8, wiS2];exact Red.rfl)))
      refine q_drop (.inr rfl) (by simp; exact Red.rfl) (by simp) ⟨rfl, rfl⟩
  · rcases hl with rfl | rfl
    · repeat (first|(with_reducible first|apply X1|apply X2|apply X3|apply X8)|((with_reducible apply e_end);(simp;exact Red.rfl))|((first|((with_reducible apply O1);rfl)|((with_reducible apply O2);rfl));(simp (disch:=omega) [h5, h8, wiS2];exact Red.rfl);exact Red.rfl;(focus (first|(simp;done)|omega|(simp;omega))))|((with_reducible apply Z9);(simp (disch:=omega) [h5, h8, wiS2];exact Red.rfl)))
      refine q_drop (.inr rfl) (by simp; exact Red.rfl) (by simp) ⟨rfl, rfl⟩
    · repeat (first|(with_reducible first|apply X1|apply X2|apply X3|apply X8)|((with_reducible apply e_end);(simp;exact Red.rfl))|((first|((with_reducible apply O1);rfl)|((with_reducible apply O2);rfl));(simp (disch:=omega) [h5, h8, wiS2];exact Red.rfl);exact Red.rfl;(focus (first|(simp;done)|omega|(simp;omega))))|((with_reducible apply W3);(simp (disch:=omega) [h5, h8, wiS2];exact Red.rfl)))
      refine q_drop (.inr rfl) (by simp; exact Red.rfl) (by simp) ⟨rfl, rfl⟩
end Go.Proofs
/- Ends of spans: tracks and sleds of which one number is left of each span. -/
namespace Go.Proofs
open Go.Abs
attribute [local simp] AOp.den AOpd.ev lk cellsOf rd_new rd_new0 rd_zero rd_succ wr_new wr_new0 wr_zero wr_succ splice fillA binA scal sliceCells List.length_append argsT AV.sc scL AObj.sc resV getAll AR.get AOp.slots opdSlots opdsSlots partSlots eqAt at_new0 at_new set_new0 set_new wrap64
set_option linter.unusedSimpArgs false
set_option linter.unusedVariables false
theorem c_Twin (H : Heap) (l : List Str) (id off : Nat) (ex : Bool) (hs : rd H id off (l.length * 9) = some (l.flatMap Str.av)) (hn : l.length ≤ 1000) :
    ACalls Try.prog F.ref01_Twin [.agg [.slice id off l.length 9 ex]] H (fun v h' => v = .agg [.slice H.length 0 l.length 9 false] ∧ h' = H ++ [.cells (l.flatMap Str.av) true]) := by
  refine acalls_of ok_ref01_Twin rfl fun hcl => ?_
  unfold ac_ref01_Twin
  simp only [argsT, Nat.zero_add, Nat.reduceAdd]
  have hid := rd_lt hs
  have pl := (plain_str l).plain l.length
  rw [flat_eq] at hs ⊢
  repeat (first|(with_reducible first|apply X1|apply X2|apply X3|apply X8)|((with_reducible apply e_end);(simp;exact Red.rfl))|((first|((with_reducible apply O1);rfl)|((with_reducible apply O2);rfl));(simp (disch:=omega) [rd_old _ hid, hs, pl.scal];exact Red.rfl);exact Red.rfl;(focus (first|(simp;done)|omega|(simp;omega)))))
  exact q_post (v' := .agg [.slice H.length 0 l.length 9 false]) (.inr rfl) (by simp; exact Red.rfl) (le_plain [3] _ (by simp) rfl (by simp; exact pl.o _) (by simp [sh, AV.ren, renL])) ⟨rfl, rfl⟩

theorem c3_span (H : Heap) (a b : Int) : ACalls Try.prog F.law03_span [.int .i64 a, .int .i64 b] H (fun v h' => v = .agg [.int .i64 a, .int .i64 b] ∧ h' = H) := by
  refine acalls_of ok_law03_span rfl fun hcl => ?_
  unfold ac_law03_span
  simp only [argsT, Nat.zero_add, Nat.reduceAdd]
  repeat (first|(with_reducible first|apply X1|apply X2|apply X3|apply X8)|((with_reducible apply e_end);(simp;exact Red.rfl))|((first|((with_reducible apply O1);rfl)|((with_reducible apply O2);rfl));(simp (disch:=omega);exact Red.rfl);exact Red.rfl;(focus (first|(simp;done)|omega|(simp;omega)))))
  refine q_drop (.inr rfl) (by simp; exact Red.rfl) (by simp) ⟨rfl, rfl⟩

def lowS (x : Str) : Str := ⟨x.id, x.lHi, x.lHi, x.fLo, x.fLo, x.rHi, x.rHi, x.side, x.wall⟩
def highS (x : Str) : Str := ⟨x.id, x.lLo, x.lLo, x.fHi, x.fHi, x.rLo, x.rLo, x.side, x.wall⟩
def slowS (s : Sl) : Sl := ⟨s.c, s.s1, s.s1, s.r2, s.r2, s.d2, s.d2, s.w1, s.w1, s.t1, s.t1⟩
def fastS (s : Sl) : Sl := ⟨s.c, s.s2, s.s2, s.r1, s.r1, s.d1, s.d1, s.w2, s.w2, s.t2, s.t2⟩
/-- The list in which some stretches are done. -/
def doneS (g : Str → Str) (l : List Str) (i j : Nat) : Str := if j < i then g (strAt l j) else strAt l j

end Go.Proofs
