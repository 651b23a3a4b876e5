/- Several texts as one. -/
import Derived.Test.YteinjjoonmdakaaBA
import Derived.Test.YteinjjoonmdakaaEX
/- Lines in memory; whether their numbers are valid. -/
namespace Go.Proofs
open Go.Abs
attribute [local simp] AOp.den AOpd.ev lk cellsOf rd_new rd_new0 rd_zero rd_succ wr_new wr_new0 wr_zero wr_succ splice fillA binA scal sliceCells List.length_append argsT AV.sc scL AObj.sc resV getAll AR.get AOp.slots opdSlots opdsSlots partSlots eqAt at_new0 at_new set_new0 set_new wrap64
set_option linter.unusedSimpArgs false
set_option linter.unusedVariables false
structure Lim where
  a : Int
  b : Int
  lo : Int
  hi : Int
def Lim.av (x : Lim) : List AV := [.int .i64 x.a, .int .i64 x.b, .int .i64 x.lo, .int .i64 x.hi]
theorem Lim.av_length (x : Lim) : x.av.length = 4 := rfl
def Lim.ok (x : Lim) : Prop := x.a ≤ x.b ∧ x.lo ≤ x.a ∧ x.b ≤ x.hi

theorem c_Valid (H : Heap) (xs : List Lim) (id off : Nat) (ex : Bool) (hs : rd H id off (xs.length * 4) = some (xs.flatMap Lim.av)) (hn : (xs.length : Int) < 1000000) {b : Bool} (hb : b = true ↔ ∀ j (hj : j < xs.length), xs[j].ok) :
    ACalls Try.prog F.span_Valid [.slice id off xs.length 4 ex] H (fun v h' => v = .bool b ∧ h' = H) := by
  refine acalls_of ok_span_Valid rfl fun hcl => ?_
  unfold ac_span_Valid
  simp only [argsT, Nat.zero_add, Nat.reduceAdd]
  have hid := rd_lt hs
  repeat (first|(with_reducible first|apply X1|apply X2|apply X6|apply X8)|((with_reducible apply e_end);(simp;exact Red.rfl))|((with_reducible apply O1);rfl;(simp (disch:=omega);exact Red.rfl);exact Red.rfl;(focus (first|(simp;done)|omega|(simp;omega)))))
  refine e_loop (ι := { i : Nat // i ≤ xs.length ∧ ∀ j (hj : j < xs.length), j < i → xs[j].ok })
    (fun i => [(5, .slice id off xs.length 4 ex), (6, .int .i64 xs.length), (7, .int .i64 i.1)]) (fun _ => H) (fun i => xs.length - i.1) ⟨0, by simp⟩ ?_ ?_
  · exact .inr <| le_id (by simp [hid])
  · rintro ⟨i, hi1, hi2⟩
    dsimp only
    repeat (first|(with_reducible first|apply X1|apply X2|apply X8)|((with_reducible apply e_end);(simp;exact Red.rfl))|((with_reducible apply O1);rfl;(simp (disch:=omega);exact Red.rfl);exact Red.rfl;(focus (first|(simp;done)|omega|(simp;omega)))))
    (with_reducible apply e_dec); (simp; exact Red.rfl)
    · intro hlt
      have hlt : i < xs.length := by omega
      have hx := rd_row Lim.av_length hs hlt
      generalize hsi : xs[i] = s at hx
      obtain ⟨a1, a2, a3, a4⟩ := s
      simp only [Lim.av] at hx
      repeat (first|(with_reducible first|apply X1|apply X2|apply X5|apply X6|apply X8)|((with_reducible apply e_end);(simp;exact Red.rfl))|((first|((with_reducible apply O1);rfl)|((with_reducible apply O2);rfl));(simp (disch:=omega) [rd_old _ hid, hx];exact Red.rfl);exact Red.rfl;(focus (first|(simp;done)|omega|(simp;omega)))))
      (with_reducible apply e_call); (simp; exact Red.rfl); exact c_fits _ _ _ _ _
      rintro _ _ ⟨rfl, rfl⟩
      by_cases hok : a1 ≤ a2 ∧ a3 ≤ a1 ∧ a2 ≤ a4
      · repeat (first|(with_reducible first|apply X2|apply X5|apply X8|apply Y2)|((with_reducible apply e_end);(simp;exact Red.rfl))|((with_reducible apply O1);rfl;(simp (disch:=omega) [hok];exact Red.rfl);exact Red.rfl;(focus (first|(simp;done)|omega|(simp;omega))))|((with_reducible apply W3);(simp (disch:=omega) [hok];exact Red.rfl)))
        refine q_again ⟨i + 1, hlt, ?_⟩ ?_ ?_
        · intro j hj hji
          rcases Nat.lt_or_ge j i with h | h
          · exact hi2 j hj h
          · have : j = i := by omega
            subst this; rw [hsi]; exact hok
        · dsimp only; omega
        · exact .inr <| le_drop (by simp; omega)
      · repeat (first|(with_reducible first|apply X1|apply X2|apply X3|apply X8|apply X9|apply Y3|apply Y5)|((with_reducible apply e_end);(simp;exact Red.rfl))|((with_reducible apply O1);rfl;(simp (disch:=omega) [hok];exact Red.rfl);exact Red.rfl;(focus (first|(simp;done)|omega|(simp;omega))))|((with_reducible apply Z9);(simp (disch:=omega) [hok];exact Red.rfl)))
        refine q_drop (.inr rfl) (by simp; exact Red.rfl) (by simp) ⟨?_, rfl⟩
        rw [AV.bool.injEq]
        refine (Bool.eq_false_iff.2 fun h => hok ?_).symm
        have := hb.1 h i hlt
        rw [hsi] at this; exact this
    · intro hge
      repeat (first|(with_reducible first|apply X1|apply X2|apply X3|apply X4|apply X8|apply Y1|apply Y4|apply Y6)|((with_reducible apply e_end);(simp;exact Red.rfl))|((with_reducible apply O1);rfl;(simp (disch:=omega);exact Red.rfl);exact Red.rfl;(focus (first|(simp;done)|omega|(simp;omega)))))
      refine q_drop0 (.inr rfl) (by simp; exact Red.rfl) (by simp) ⟨?_, rfl⟩
      rw [AV.bool.injEq]
      exact (hb.2 fun j hj => hi2 j hj (by omega)).symm

structure Bm where
  k : Int
  lo : Int
  hi : Int
  ck : Int
def Bm.av (b : Bm) : List AV := [.int .i64 b.k, .int .i64 b.lo, .int .i64 b.hi, .int .i64 b.ck]
def bmR (bm : Nat → Bm) (j : Nat) : List AV := (bm j).av
theorem plain_bm (bm : Nat → Bm) : PlainRow 4 (bmR bm) := ⟨fun _ => rfl, fun _ => ⟨rfl, fun _ => rfl, fun _ => rfl⟩⟩
structure Ln where
  tr : List Str
  fast : Int
  cl : Nat → Ck
  nc : Nat
  bm : Nat → Bm
  nb : Nat
  fin : Int
  fakes : Int
  misses : Int
structure LP where
  tid : Nat
  toff : Nat
  tex : Bool
  cid : Nat
  coff : Nat
  cex : Bool
  bid : Nat
  boff : Nat
  bex : Bool
def Ln.av (x : Ln) (p : LP) : List AV := [.slice p.tid p.toff x.tr.length 9 p.tex, .int .i64 x.fast, .slice p.cid p.coff x.nc 2 p.cex, .slice p.bid p.boff x.nb 4 p.bex, .int .i64 x.fin, .int .i64 x.fakes, .int .i64 x.misses]
structure LnAt (H : Heap) (x : Ln) (p : LP) : Prop where
  tr : rd H p.tid p.toff (x.tr.length * 9) = some (x.tr.flatMap Str.av)
  cl : rd H p.cid p.coff (x.nc * 2) = some (avR (ckR x.cl) x.nc)
  sy : ∀ i, i < x.nc → SyAt H (x.cl i).sv (x.cl i).sy (x.cl i).m ∧ (x.cl i).m ≤ 1000000
  bm : rd H p.bid p.boff (x.nb * 4) = some (avR (bmR x.bm) x.nb)
  ln : x.tr.length ≤ 20 ∧ x.nc ≤ 8 ∧ x.nb ≤ 10
theorem LnAt.app {H : Heap} {x : Ln} {p : LP} (h : LnAt H x p) (G : Heap) : LnAt (H ++ G) x p :=
  ⟨by rw [rd_old _ (rd_lt h.tr)]; exact h.tr, by rw [rd_old _ (rd_lt h.cl)]; exact h.cl, fun i hi => ⟨(h.sy i hi).1.app G, (h.sy i hi).2⟩, by rw [rd_old _ (rd_lt h.bm)]; exact h.bm, h.ln⟩
theorem LnAt.ck {H : Heap} {x : Ln} {p : LP} (h : LnAt H x p) : CkAt H (.slice p.cid p.coff x.nc 2 p.cex) x.cl x.nc := ⟨.inr ⟨_, _, _, rfl, h.cl⟩, h.sy⟩
theorem LnAt.crow {H : Heap} {x : Ln} {p : LP} (h : LnAt H x p) {i : Nat} (hi : i < x.nc) : rd H p.cid (p.coff + i * 2) 2 = some [.int .i64 (x.cl i).dr, (x.cl i).sv] := by
  have := rd_at h.cl hi
  rw [avR_row (k := 2) (fun _ => rfl) hi] at this
  exact this
theorem LnAt.brow {H : Heap} {x : Ln} {p : LP} (h : LnAt H x p) {i : Nat} (hi : i < x.nb) : rd H p.bid (p.boff + i * 4) 4 = some (x.bm i).av := by
  have := rd_at h.bm hi
  rw [(plain_bm x.bm).row hi] at this
  exact this
theorem LnAt.lt {H : Heap} {x : Ln} {p : LP} (h : LnAt H x p) : p.tid < H.length ∧ p.cid < H.length ∧ p.bid < H.length := ⟨rd_lt h.tr, rd_lt h.cl, rd_lt h.bm⟩
def okB (x : Ln) : Prop := (1 ≤ x.fast ∧ x.fast ≤ 5000) ∧ (1 ≤ x.nc ∧ x.nc ≤ 4) ∧ (1 ≤ x.nb ∧ x.nb ≤ 6) ∧ (0 ≤ x.fin ∧ x.fin ≤ (x.nb : Int) - 1) ∧ (0 ≤ x.fakes ∧ x.fakes ≤ 3) ∧ (0 ≤ x.misses ∧ x.misses ≤ 3)
set_option maxHeartbeats 2000000 in
theorem c_bounded (H : Heap) (x : Ln) (p : LP) (h : LnAt H x p) {b : Bool} (hb : b = true ↔ okB x) :
    ACalls Try.prog F.beam_line_bounded [.agg (x.av p)] H (fun v h' => v = .bool b ∧ h' = H) := by
  obtain ⟨l1, l2, l3⟩ := h.lt
  obtain ⟨n1, n2, n3⟩ := h.ln
  have cB := fun G => c_indB (H ++ G) (.slice p.bid p.boff x.nb 4 p.bex) x.nb (.inr ⟨_, _, _, _, rfl⟩) (by omega)
  have cV : ∀ G id, rd (H ++ G) id 0 24 = some (List.flatMap Lim.av [⟨x.fast, x.fast, 1, 5000⟩, ⟨x.nc, x.nc, 1, 4⟩, ⟨x.nb, x.nb, 1, 6⟩, ⟨x.fin, x.fin, 0, (x.nb : Int) - 1⟩, ⟨x.fakes, x.fakes, 0, 3⟩, ⟨x.misses, x.misses, 0, 3⟩]) → ACalls Try.prog F.span_Valid [.slice id 0 6 4 true] (H ++ G) (fun v h' => v = .bool b ∧ h' = H ++ G) := fun G id hr =>
    c_Valid (H ++ G) [⟨x.fast, x.fast, 1, 5000⟩, ⟨x.nc, x.nc, 1, 4⟩, ⟨x.nb, x.nb, 1, 6⟩, ⟨x.fin, x.fin, 0, (x.nb : Int) - 1⟩, ⟨x.fakes, x.fakes, 0, 3⟩, ⟨x.misses, x.misses, 0, 3⟩] id 0 true hr (by simp) (b := b) (by
      rw [hb]
      simp only [okB]
      constructor
      · rintro ⟨a1, a2, a3, a4, a5, a6⟩ j hj
        have : j = 0 ∨ j = 1 ∨ j = 2 ∨ j = 3 ∨ j = 4 ∨ j = 5 := by simp at hj; omega
        rcases this with rfl | rfl | rfl | rfl | rfl | rfl <;> simp [Lim.ok] <;> omega
      · intro h
        have h0 := h 0 (by simp)
        have h1 := h 1 (by simp)
        have h2 := h 2 (by simp)
        have h3 := h 3 (by simp)
        have h4 := h 4 (by simp)
        have h5 := h 5 (by simp)
        simp [Lim.ok] at h0 h1 h2 h3 h4 h5
        omega)
  simp only [Ln.av]
  refine acalls_of ok_beam_line_bounded rfl fun hcl => ?_
  unfold ac_beam_line_bounded
  simp only [argsT, Nat.zero_add, Nat.reduceAdd]
  repeat (first|(with_reducible first|apply X1|apply X2|apply X8|apply Y9)|((with_reducible apply e_end);(simp;exact Red.rfl))|((first|((with_reducible apply O1);rfl)|((with_reducible apply P1);rfl)|((with_reducible apply P2);rfl));(simp (disch:=omega);exact Red.rfl);exact Red.rfl;(focus (first|(simp;done)|omega|(simp;omega)))))
  (with_reducible apply d_call); (simp; exact Red.rfl); exact c_one _ _; (focus (first | (simp; done) | (simp; omega)))
  repeat (first|((with_reducible apply P1);rfl;(simp (disch:=omega);exact Red.rfl);exact Red.rfl;(focus (first|(simp;done)|omega|(simp;omega))))|((with_reducible apply P6);rfl;(simp (disch:=omega);exact Red.rfl);exact Red.rfl;(focus (first|(simp [pr];done)|(simp [pr];omega)))))
  (with_reducible apply d_call); (simp; exact Red.rfl); exact c_one _ _; (focus (first | (simp; done) | (simp; omega)))
  repeat (first|((with_reducible apply P1);rfl;(simp (disch:=omega);exact Red.rfl);exact Red.rfl;(focus (first|(simp;done)|omega|(simp;omega))))|((with_reducible apply P6);rfl;(simp (disch:=omega);exact Red.rfl);exact Red.rfl;(focus (first|(simp [pr];done)|(simp [pr];omega)))))
  (with_reducible apply d_call); (simp; exact Red.rfl); exact c_one _ _; (focus (first | (simp; done) | (simp; omega)))
  repeat (first|((with_reducible apply P1);rfl;(simp (disch:=omega);exact Red.rfl);exact Red.rfl;(focus (first|(simp;done)|omega|(simp;omega))))|((with_reducible apply P6);rfl;(simp (disch:=omega);exact Red.rfl);exact Red.rfl;(focus (first|(simp [pr];done)|(simp [pr];omega)))))
  (with_reducible apply d_call); (simp; exact Red.rfl); exact c_one _ _; (focus (first | (simp; done) | (simp; omega)))
  repeat (first|((with_reducible apply P1);rfl;(simp (disch:=omega);exact Red.rfl);exact Red.rfl;(focus (first|(simp;done)|omega|(simp;omega))))|((with_reducible apply P6);rfl;(simp (disch:=omega);exact Red.rfl);exact Red.rfl;(focus (first|(simp [pr];done)|(simp [pr];omega)))))
  (with_reducible apply d_call); (simp; exact Red.rfl); exact cB _; (focus (first | (simp; done) | (simp; omega)))
  repeat (first|((with_reducible apply P1);rfl;(simp (disch:=omega);exact Red.rfl);exact Red.rfl;(focus (first|(simp;done)|omega|(simp;omega))))|((with_reducible apply P6);rfl;(simp (disch:=omega);exact Red.rfl);exact Red.rfl;(focus (first|(simp [pr];done)|(simp [pr];omega)))))
  (with_reducible apply d_call); (simp; exact Red.rfl); exact c_one _ _; (focus (first | (simp; done) | (simp; omega)))
  skip
  (with_reducible apply d_call); (simp; exact Red.rfl); exact c_upto _ _; (focus (first | (simp; done) | (simp; omega)))
  repeat (first|((with_reducible apply P1);rfl;(simp (disch:=omega);exact Red.rfl);exact Red.rfl;(focus (first|(simp;done)|omega|(simp;omega))))|((with_reducible apply P6);rfl;(simp (disch:=omega);exact Red.rfl);exact Red.rfl;(focus (first|(simp [pr];done)|(simp [pr];omega)))))
  (with_reducible apply d_call); (simp; exact Red.rfl); exact c_one _ _; (focus (first | (simp; done) | (simp; omega)))
  skip
  (with_reducible apply d_call); (simp; exact Red.rfl); exact c_upto _ _; (focus (first | (simp; done) | (simp; omega)))
  repeat ((first|((with_reducible apply P1);rfl)|((with_reducible apply P3);rfl));(simp (disch:=omega);exact Red.rfl);exact Red.rfl;(focus (first|(simp;done)|omega|(simp;omega))))
  (with_reducible apply d_call); (simp; exact Red.rfl); exact cV _ (H.length + 1) (by simp [Lim.av]); (focus (first | (simp; done) | (simp; omega)))
  repeat (first|(with_reducible first|apply X3|apply X8)|((with_reducible apply d_end);(simp;exact Red.rfl))|((with_reducible apply P1);rfl;(simp (disch:=omega);exact Red.rfl);exact Red.rfl;(focus (first|(simp;done)|omega|(simp;omega)))))
  refine q_drop (.inr rfl) (by simp; exact Red.rfl) (by simp) ⟨rfl, rfl⟩
def okT (x : Ln) : Prop := ∀ i, i < x.nc → okX (x.cl i)
theorem c_timed (H : Heap) (x : Ln) (p : LP) (h : LnAt H x p) {b : Bool} (hb : b = true ↔ okT x) :
    ACalls Try.prog F.beam_line_timed [.agg (x.av p)] H (fun v h' => v = .bool b ∧ h' = H) := by
  obtain ⟨l1, l2, l3⟩ := h.lt
  obtain ⟨n1, n2, n3⟩ := h.ln
  have cR := fun G => c_right6 (H ++ G) _ x.cl x.nc (h.ck.app G) (by omega)
  have hall := okN_all (cl := x.cl) (n := x.nc)
  have hle := okN_le x.cl x.nc
  simp only [Ln.av]
  refine acalls_of ok_beam_line_timed rfl fun hcl => ?_
  unfold ac_beam_line_timed
  simp only [argsT, Nat.zero_add, Nat.reduceAdd]
  repeat (first|(with_reducible first|apply X1|apply X2|apply X8|apply Y9)|((with_reducible apply e_end);(simp;exact Red.rfl))|((first|((with_reducible apply O1);rfl)|((with_reducible apply P1);rfl)|((with_reducible apply P2);rfl));(simp (disch:=omega);exact Red.rfl);exact Red.rfl;(focus (first|(simp;done)|omega|(simp;omega)))))
  (with_reducible apply d_call); (simp; exact Red.rfl); exact cR _; (focus (first | (simp; done) | (simp; omega)))
  by_cases he : okN x.cl x.nc = x.nc
  · have he2 : (okN x.cl x.nc : Int) = x.nc := by omega
    obtain rfl : b = true := hb.2 (hall.1 he)
    repeat (first|(with_reducible first|apply X3|apply X8)|((with_reducible apply d_end);(simp;exact Red.rfl))|((with_reducible apply P1);rfl;(simp (disch:=omega) [he2];exact Red.rfl);exact Red.rfl;(focus (first|(simp;done)|omega|(simp;omega))))|((with_reducible apply P6);rfl;(simp (disch:=omega) [he2];exact Red.rfl);exact Red.rfl;(focus (first|(simp [pr];done)|(simp [pr];omega)))))
    refine q_drop (.inr rfl) (by simp; exact Red.rfl) (by simp) ⟨rfl, rfl⟩
  · have he2 : ¬ (okN x.cl x.nc : Int) = x.nc := by omega
    obtain rfl : b = false := by
      cases b with
      | false => rfl
      | true => exact absurd (hall.2 (hb.1 rfl)) he
    repeat (first|(with_reducible first|apply X3|apply X8)|((with_reducible apply d_end);(simp;exact Red.rfl))|((with_reducible apply P1);rfl;(simp (disch:=omega) [he2];exact Red.rfl);exact Red.rfl;(focus (first|(simp;done)|omega|(simp;omega))))|((with_reducible apply P6);rfl;(simp (disch:=omega) [he2];exact Red.rfl);exact Red.rfl;(focus (first|(simp [pr];done)|(simp [pr];omega)))))
    refine q_drop (.inr rfl) (by simp; exact Red.rfl) (by simp) ⟨by simp [he], rfl⟩
section
variable (l : List Str) (a1 a2 a3 b1 b2 b3 : Int) (hv : validL l) (hn : (l.length : Int) < 1000000)
include hv hn
theorem at_val (hk : spotOK l b1 b2 b3) : ∀ (H : Heap) (id off : Nat) (ex : Bool), rd H id off (l.length * 9) = some (l.flatMap Str.av) →
    ACalls Try.prog F.track_At [.agg [.slice id off l.length 9 ex], .agg [.int .i64 b1, .int .i64 b2, .int .i64 b3]] H (fun v h' => v = .tuple [.agg [.int .i64 (mLo l b1.toNat + b2), .int .i64 (mHi l b1.toNat + b3)], .int .i64 0] ∧ h' = H) ∧
    ACalls Try.prog F.ref01_At [.agg [.slice id off l.length 9 ex], .agg [.int .i64 b1, .int .i64 b2, .int .i64 b3]] H (fun v h' => v = .tuple [.agg [.int .i64 (mLo l b1.toNat + b2), .int .i64 (mHi l b1.toNat + b3)], .int .i64 0] ∧ h' = H) := by
  obtain ⟨i, rfl⟩ := Int.eq_ofNat_of_zero_le hk.1.1
  refine fun H id off ex hs => ⟨(c_At H l id off ex i b2 b3 hs hn).mono ?_, c_rAt H l id off ex i b2 b3 hs hv hk⟩
  rintro v h ⟨rfl, p, q, e, rfl, h | h | h⟩
  · exact absurd hv h.1
  · exact absurd hk h.2.1
  · obtain ⟨_, _, rfl, rfl, rfl⟩ := h
    simp
theorem at_err (hk : ¬ spotOK l b1 b2 b3) : ∀ (H : Heap) (id off : Nat) (ex : Bool), rd H id off (l.length * 9) = some (l.flatMap Str.av) →
    ACalls Try.prog F.track_At [.agg [.slice id off l.length 9 ex], .agg [.int .i64 b1, .int .i64 b2, .int .i64 b3]] H (fun v h' => v = .tuple [.agg [.int .i64 0, .int .i64 0], .int .i64 12] ∧ h' = H) := by
  refine fun H id off ex hs => (c_At H l id off ex b1 b2 b3 hs hn).mono ?_
  rintro v h ⟨rfl, p, q, e, rfl, h | h | h⟩
  · exact absurd hv h.1
  · obtain ⟨_, _, rfl, rfl, rfl⟩ := h; exact ⟨rfl, rfl⟩
  · exact absurd h.2.1 hk
theorem apart_val (hk : spotOK l a1 a2 a3 ∧ spotOK l b1 b2 b3) : ∀ (H : Heap) (id off : Nat) (ex : Bool), rd H id off (l.length * 9) = some (l.flatMap Str.av) →
    ACalls Try.prog F.track_Apart [.agg [.slice id off l.length 9 ex], .agg [.int .i64 a1, .int .i64 a2, .int .i64 a3], .agg [.int .i64 b1, .int .i64 b2, .int .i64 b3]] H (fun v h' => v = .tuple [.agg [.int .i64 (wayLo l a1.toNat b1.toNat + (b2 - a3)), .int .i64 (wayHi l a1.toNat b1.toNat + (b3 - a2))], .int .i64 0] ∧ h' = H) ∧
    ACalls Try.prog F.ref01_Apart [.agg [.slice id off l.length 9 ex], .agg [.int .i64 a1, .int .i64 a2, .int .i64 a3], .agg [.int .i64 b1, .int .i64 b2, .int .i64 b3]] H (fun v h' => v = .tuple [.agg [.int .i64 (wayLo l a1.toNat b1.toNat + (b2 - a3)), .int .i64 (wayHi l a1.toNat b1.toNat + (b3 - a2))], .int .i64 0] ∧ h' = H) := by
  obtain ⟨i, rfl⟩ := Int.eq_ofNat_of_zero_le hk.1.1.1
  obtain ⟨j, rfl⟩ := Int.eq_ofNat_of_zero_le hk.2.1.1
  refine fun H id off ex hs => ⟨(c_Apart H l id off ex i a2 a3 j b2 b3 hs hn).mono ?_, ?_⟩
  · rintro v h ⟨rfl, p, q, e, rfl, h | h | h⟩
    · exact absurd hv h.1
    · exact absurd hk h.2.1
    · obtain ⟨_, _, _, rfl, rfl, rfl⟩ := h
      simp
  · by_cases hij : i ≤ j
    · have h := c_rApart0 H l id off ex i a2 a3 j b2 b3 hs hv hk.1 hk.2 hij
      have hji : ¬ j < i := by omega
      have e1 : wayLo l i j + (b2 - a3) = sumF (kLo kLong l) i (j - i) + b2 - a3 := by rw [wayLo, if_neg hji]; omega
      have e2 : wayHi l i j + (b3 - a2) = sumF (kHi kLong l) i (j - i) + b3 - a2 := by rw [wayHi, if_neg hji]; omega
      simp only [Int.toNat_natCast]
      rw [e1, e2]; exact h
    · have hji : j < i := by omega
      have h := c_rApart1 H l id off ex i a2 a3 j b2 b3 hs hv hk.1 hk.2 hji
      have e1 : wayLo l i j + (b2 - a3) = 0 - (sumF (kHi kLong l) j (i - j) + a3 - b2) := by rw [wayLo, if_pos hji]; omega
      have e2 : wayHi l i j + (b3 - a2) = 0 - (sumF (kLo kLong l) j (i - j) + a2 - b3) := by rw [wayHi, if_pos hji]; omega
      simp only [Int.toNat_natCast]
      rw [e1, e2]; exact h
theorem apart_err (hk : ¬ (spotOK l a1 a2 a3 ∧ spotOK l b1 b2 b3)) : ∀ (H : Heap) (id off : Nat) (ex : Bool), rd H id off (l.length * 9) = some (l.flatMap Str.av) →
    ACalls Try.prog F.track_Apart [.agg [.slice id off l.length 9 ex], .agg [.int .i64 a1, .int .i64 a2, .int .i64 a3], .agg [.int .i64 b1, .int .i64 b2, .int .i64 b3]] H (fun v h' => v = .tuple [.agg [.int .i64 0, .int .i64 0], .int .i64 12] ∧ h' = H) := by
  refine fun H id off ex hs => (c_Apart H l id off ex a1 a2 a3 b1 b2 b3 hs hn).mono ?_
  rintro v h ⟨rfl, p, q, e, rfl, h | h | h⟩
  · exact absurd hv h.1
  · obtain ⟨_, _, rfl, rfl, rfl⟩ := h; exact ⟨rfl, rfl⟩
  · exact absurd ⟨h.2.1, h.2.2.1⟩ hk
end
def spB (x : Ln) (j : Nat) : Prop := spotOK x.tr (x.bm j).k (x.bm j).lo (x.bm j).hi
def spW (x : Ln) (j : Nat) : Prop := (0 < j → spB x (j - 1)) ∧ spB x j
def wyLo (x : Ln) (j : Nat) : Int := if j = 0 then mLo x.tr (x.bm 0).k.toNat + (x.bm 0).lo else wayLo x.tr (x.bm (j - 1)).k.toNat (x.bm j).k.toNat + ((x.bm j).lo - (x.bm (j - 1)).hi)
def wyHi (x : Ln) (j : Nat) : Int := if j = 0 then mHi x.tr (x.bm 0).k.toNat + (x.bm 0).hi else wayHi x.tr (x.bm (j - 1)).k.toNat (x.bm j).k.toNat + ((x.bm j).hi - (x.bm (j - 1)).lo)
set_option maxHeartbeats 4000000 in
theorem c_wayG (H : Heap) (x : Ln) (p : LP) (h : LnAt H x p) (hv : validL x.tr) (j : Nat) (hj : j < x.nb) (hk : spW x j) :
    ACalls Try.prog F.beam_line_way [.agg (x.av p), .int .i64 j] H (fun v h' => v = .tuple [.agg [.int .i64 (wyLo x j), .int .i64 (wyHi x j)], .int .i64 0] ∧ h' = H) := by
  obtain ⟨l1, l2, l3⟩ := h.lt
  obtain ⟨n1, n2, n3⟩ := h.ln
  have hln : (x.tr.length : Int) < 1000000 := by omega
  have row := fun i hi => h.brow (i := i) hi
  have hT := h.tr
  simp only [Ln.av]
  refine acalls_of ok_beam_line_way rfl fun hcl => ?_
  unfold ac_beam_line_way
  simp only [argsT, Nat.zero_add, Nat.reduceAdd]
  by_cases h0 : j = 0
  · subst h0
    have r0 := row 0 hj
    have r0' := rd_sub r0 (j := 0) (m := 3) (by omega)
    simp only [Bm.av, Nat.zero_mul, Nat.add_zero, List.drop_zero, List.take_succ_cons, List.take_zero] at r0'
    have cA := fun G => (at_val x.tr (x.bm 0).k (x.bm 0).lo (x.bm 0).hi hv hln hk.2 (H ++ G) p.tid p.toff p.tex (by rw [rd_old _ l1]; exact hT)).1
    have hj2 : (0 : Int) < x.nb := by omega
    repeat (first|(with_reducible first|apply X1|apply X2|apply X8|apply Y9)|((with_reducible apply e_end);(simp;exact Red.rfl))|((first|((with_reducible apply O1);rfl)|((with_reducible apply P1);rfl)|((with_reducible apply P2);rfl));(simp (disch:=omega) [rd_old _ l3, r0', hj, hj2];exact Red.rfl);exact Red.rfl;(focus (first|(simp;done)|omega|(simp;omega))))|((with_reducible apply Z9);(simp (disch:=omega) [rd_old _ l3, r0', hj, hj2];exact Red.rfl)))
    (with_reducible apply d_call); (simp; exact Red.rfl); exact cA _; (focus (first | (simp; done) | (simp; omega)))
    repeat (first|(with_reducible first|apply X3|apply X8|apply X9)|((with_reducible apply d_end);(simp;exact Red.rfl))|((first|((with_reducible apply P1);rfl)|((with_reducible apply P4);rfl));(simp (disch:=omega);exact Red.rfl);exact Red.rfl;(focus (first|(simp;done)|omega|(simp;omega)))))
    have e1 : wyLo x 0 = mLo x.tr (x.bm 0).k.toNat + (x.bm 0).lo := rfl
    have e2 : wyHi x 0 = mHi x.tr (x.bm 0).k.toNat + (x.bm 0).hi := rfl
    rw [e1, e2]
    refine q_drop (.inr rfl) (by simp; exact Red.rfl) (by simp) ⟨rfl, rfl⟩
  · have hj0 : ¬ (j : Int) = 0 := by omega
    have r0 := rd_sub (row (j - 1) (by omega)) (j := 0) (m := 3) (by omega)
    have r1 := rd_sub (row j hj) (j := 0) (m := 3) (by omega)
    simp only [Bm.av, Nat.add_zero, List.drop_zero, List.take_succ_cons, List.take_zero] at r0 r1
    have cA := fun G => (apart_val x.tr (x.bm (j - 1)).k (x.bm (j - 1)).lo (x.bm (j - 1)).hi (x.bm j).k (x.bm j).lo (x.bm j).hi hv hln ⟨hk.1 (by omega), hk.2⟩ (H ++ G) p.tid p.toff p.tex (by rw [rd_old _ l1]; exact hT)).1
    have hj2 : (j : Int) < x.nb := by omega
    have hj3 : (0 : Int) ≤ (j : Int) - 1 := by omega
    have hj4 : (j : Int) - 1 < x.nb := by omega
    have hz : ((j : Int) - 1).toNat = j - 1 := by omega
    repeat (first|(with_reducible first|apply X1|apply X2|apply X5|apply X8|apply Y9)|((with_reducible apply e_end);(simp;exact Red.rfl))|((first|((with_reducible apply O1);rfl)|((with_reducible apply P1);rfl)|((with_reducible apply P2);rfl));(simp (disch:=omega) [rd_old _ l3, r0, r1, hj, hj2, hj3, hj4, hz, h0, hj0];exact Red.rfl);exact Red.rfl;(focus (first|(simp;done)|omega|(simp;omega))))|((with_reducible apply W3);(simp (disch:=omega) [rd_old _ l3, r0, r1, hj, hj2, hj3, hj4, hz, h0, hj0];exact Red.rfl)))
    (with_reducible apply d_call); (simp; exact Red.rfl); exact cA _; (focus (first | (simp; done) | (simp; omega)))
    repeat (first|(with_reducible first|apply X3|apply X8)|((with_reducible apply d_end);(simp;exact Red.rfl))|((first|((with_reducible apply P1);rfl)|((with_reducible apply P4);rfl));(simp (disch:=omega);exact Red.rfl);exact Red.rfl;(focus (first|(simp;done)|omega|(simp;omega)))))
    have e1 : wyLo x j = wayLo x.tr (x.bm (j - 1)).k.toNat (x.bm j).k.toNat + ((x.bm j).lo - (x.bm (j - 1)).hi) := by rw [wyLo, if_neg h0]
    have e2 : wyHi x j = wayHi x.tr (x.bm (j - 1)).k.toNat (x.bm j).k.toNat + ((x.bm j).hi - (x.bm (j - 1)).lo) := by rw [wyHi, if_neg h0]
    rw [e1, e2]
    refine q_drop (.inr rfl) (by simp; exact Red.rfl) (by simp) ⟨rfl, rfl⟩
end Go.Proofs
/- How far beams are apart: errors, and the reference. -/
namespace Go.Proofs
open Go.Abs
attribute [local simp] AOp.den AOpd.ev lk cellsOf rd_new rd_new0 rd_zero rd_succ wr_new wr_new0 wr_zero wr_succ splice fillA binA scal sliceCells List.length_append argsT AV.sc scL AObj.sc resV getAll AR.get AOp.slots opdSlots opdsSlots partSlots eqAt at_new0 at_new set_new0 set_new wrap64
set_option linter.unusedSimpArgs false
set_option linter.unusedVariables false
set_option maxHeartbeats 4000000 in
theorem c_wayE (H : Heap) (x : Ln) (p : LP) (h : LnAt H x p) (hv : validL x.tr) (j : Nat) (hj : j < x.nb) (hk : ¬ spW x j) :
    ACalls Try.prog F.beam_line_way [.agg (x.av p), .int .i64 j] H (fun v h' => v = .tuple [.agg [.int .i64 0, .int .i64 0], .int .i64 12] ∧ h' = H) := by
  obtain ⟨l1, l2, l3⟩ := h.lt
  obtain ⟨n1, n2, n3⟩ := h.ln
  have hln : (x.tr.length : Int) < 1000000 := by omega
  have row := fun i hi => h.brow (i := i) hi
  have hT := h.tr
  simp only [Ln.av]
  refine acalls_of ok_beam_line_way rfl fun hcl => ?_
  unfold ac_beam_line_way
  simp only [argsT, Nat.zero_add, Nat.reduceAdd]
  by_cases h0 : j = 0
  · subst h0
    have r0 := row 0 hj
    have r0' := rd_sub r0 (j := 0) (m := 3) (by omega)
    simp only [Bm.av, Nat.zero_mul, Nat.add_zero, List.drop_zero, List.take_succ_cons, List.take_zero] at r0'
    have cA := fun G => at_err x.tr (x.bm 0).k (x.bm 0).lo (x.bm 0).hi hv hln (fun h => hk ⟨fun h => absurd h (by omega), h⟩) (H ++ G) p.tid p.toff p.tex (by rw [rd_old _ l1]; exact hT)
    have hj2 : (0 : Int) < x.nb := by omega
    repeat (first|(with_reducible first|apply X1|apply X2|apply X8|apply Y9)|((with_reducible apply e_end);(simp;exact Red.rfl))|((first|((with_reducible apply O1);rfl)|((with_reducible apply P1);rfl)|((with_reducible apply P2);rfl));(simp (disch:=omega) [rd_old _ l3, r0', hj, hj2];exact Red.rfl);exact Red.rfl;(focus (first|(simp;done)|omega|(simp;omega))))|((with_reducible apply Z9);(simp (disch:=omega) [rd_old _ l3, r0', hj, hj2];exact Red.rfl)))
    (with_reducible apply d_call); (simp; exact Red.rfl); exact cA _; (focus (first | (simp; done) | (simp; omega)))
    repeat (first|(with_reducible first|apply X3|apply X8|apply X9)|((with_reducible apply d_end);(simp;exact Red.rfl))|((first|((with_reducible apply P1);rfl)|((with_reducible apply P4);rfl));(simp (disch:=omega);exact Red.rfl);exact Red.rfl;(focus (first|(simp;done)|omega|(simp;omega)))))
    refine q_drop (.inr rfl) (by simp; exact Red.rfl) (by simp) ⟨rfl, rfl⟩
  · have hj0 : ¬ (j : Int) = 0 := by omega
    have r0 := rd_sub (row (j - 1) (by omega)) (j := 0) (m := 3) (by omega)
    have r1 := rd_sub (row j hj) (j := 0) (m := 3) (by omega)
    simp only [Bm.av, Nat.add_zero, List.drop_zero, List.take_succ_cons, List.take_zero] at r0 r1
    have cA := fun G => apart_err x.tr (x.bm (j - 1)).k (x.bm (j - 1)).lo (x.bm (j - 1)).hi (x.bm j).k (x.bm j).lo (x.bm j).hi hv hln (fun h => hk ⟨fun _ => h.1, h.2⟩) (H ++ G) p.tid p.toff p.tex (by rw [rd_old _ l1]; exact hT)
    have hj2 : (j : Int) < x.nb := by omega
    have hj3 : (0 : Int) ≤ (j : Int) - 1 := by omega
    have hj4 : (j : Int) - 1 < x.nb := by omega
    have hz : ((j : Int) - 1).toNat = j - 1 := by omega
    repeat (first|(with_reducible first|apply X1|apply X2|apply X5|apply X8|apply Y9)|((with_reducible apply e_end);(simp;exact Red.rfl))|((first|((with_reducible apply O1);rfl)|((with_reducible apply P1);rfl)|((with_reducible apply P2);rfl));(simp (disch:=omega) [rd_old _ l3, r0, r1, hj, hj2, hj3, hj4, hz, h0, hj0];exact Red.rfl);exact Red.rfl;(focus (first|(simp;done)|omega|(simp;omega))))|((with_reducible apply W3);(simp (disch:=omega) [rd_old _ l3, r0, r1, hj, hj2, hj3, hj4, hz, h0, hj0];exact Red.rfl)))
    (with_reducible apply d_call); (simp; exact Red.rfl); exact cA _; (focus (first | (simp; done) | (simp; omega)))
    repeat (first|(with_reducible first|apply X3|apply X8)|((with_reducible apply d_end);(simp;exact Red.rfl))|((first|((with_reducible apply P1);rfl)|((with_reducible apply P4);rfl));(simp (disch:=omega);exact Red.rfl);exact Red.rfl;(focus (first|(simp;done)|omega|(simp;omega)))))
    refine q_drop (.inr rfl) (by simp; exact Red.rfl) (by simp) ⟨rfl, rfl⟩
set_option maxHeartbeats 4000000 in
theorem c_rwayG (H : Heap) (x : Ln) (p : LP) (h : LnAt H x p) (hv : validL x.tr) (j : Nat) (hj : j < x.nb) (hk : spW x j) :
    ACalls Try.prog F.ref05_way [.agg (x.av p), .int .i64 j] H (fun v h' => v = .int .i64 (wyLo x j) ∧ h' = H) := by
  obtain ⟨l1, l2, l3⟩ := h.lt
  obtain ⟨n1, n2, n3⟩ := h.ln
  have hln : (x.tr.length : Int) < 1000000 := by omega
  have row := fun i hi => h.brow (i := i) hi
  have hT := h.tr
  simp only [Ln.av]
  refine acalls_of ok_ref05_way rfl fun hcl => ?_
  unfold ac_ref05_way
  simp only [argsT, Nat.zero_add, Nat.reduceAdd]
  by_cases h0 : j = 0
  · subst h0
    have r0 := row 0 hj
    have r0' := rd_sub r0 (j := 0) (m := 3) (by omega)
    simp only [Bm.av, Nat.zero_mul, Nat.add_zero, List.drop_zero, List.take_succ_cons, List.take_zero] at r0'
    have cA := fun G => (at_val x.tr (x.bm 0).k (x.bm 0).lo (x.bm 0).hi hv hln hk.2 (H ++ G) p.tid p.toff p.tex (by rw [rd_old _ l1]; exact hT)).2
    have hj2 : (0 : Int) < x.nb := by omega
    repeat (first|(with_reducible first|apply X1|apply X2|apply X8|apply Y9)|((with_reducible apply e_end);(simp;exact Red.rfl))|((first|((with_reducible apply O1);rfl)|((with_reducible apply P1);rfl)|((with_reducible apply P2);rfl));(simp (disch:=omega) [rd_old _ l3, r0', hj, hj2];exact Red.rfl);exact Red.rfl;(focus (first|(simp;done)|omega|(simp;omega))))|((with_reducible apply Z9);(simp (disch:=omega) [rd_old _ l3, r0', hj, hj2];exact Red.rfl)))
    (with_reducible apply d_call); (simp; exact Red.rfl); exact cA _; (focus (first | (simp; done) | (simp; omega)))
    repeat (first|(with_reducible first|apply X1|apply X2|apply X3|apply X8|apply X9)|((with_reducible first|apply e_end|apply d_end);(simp;exact Red.rfl))|((first|((with_reducible apply O1);rfl)|((with_reducible apply P1);rfl)|((with_reducible apply P3);rfl)|((with_reducible apply P4);rfl));(simp (disch:=omega);exact Red.rfl);exact Red.rfl;(focus (first|(simp;done)|omega|(simp;omega)))))
    have e1 : wyLo x 0 = mLo x.tr (x.bm 0).k.toNat + (x.bm 0).lo := rfl
    rw [e1]
    refine q_drop (.inr rfl) (by simp; exact Red.rfl) (by simp) ⟨rfl, rfl⟩
  · have hj0 : ¬ (j : Int) = 0 := by omega
    have r0 := rd_sub (row (j - 1) (by omega)) (j := 0) (m := 3) (by omega)
    have r1 := rd_sub (row j hj) (j := 0) (m := 3) (by omega)
    simp only [Bm.av, Nat.add_zero, List.drop_zero, List.take_succ_cons, List.take_zero] at r0 r1
    have cA := fun G => (apart_val x.tr (x.bm (j - 1)).k (x.bm (j - 1)).lo (x.bm (j - 1)).hi (x.bm j).k (x.bm j).lo (x.bm j).hi hv hln ⟨hk.1 (by omega), hk.2⟩ (H ++ G) p.tid p.toff p.tex (by rw [rd_old _ l1]; exact hT)).2
    have hj2 : (j : Int) < x.nb := by omega
    have hj3 : (0 : Int) ≤ (j : Int) - 1 := by omega
    have hj4 : (j : Int) - 1 < x.nb := by omega
    have hz : ((j : Int) - 1).toNat = j - 1 := by omega
    repeat (first|(with_reducible first|apply X1|apply X2|apply X5|apply X8|apply Y9)|((with_reducible apply e_end);(simp;exact Red.rfl))|((first|((with_reducible apply O1);rfl)|((with_reducible apply P1);rfl)|((with_reducible apply P2);rfl));(simp (disch:=omega) [rd_old _ l3, r0, r1, hj, hj2, hj3, hj4, hz, h0, hj0];exact Red.rfl);exact Red.rfl;(focus (first|(simp;done)|omega|(simp;omega))))|((with_reducible apply W3);(simp (disch:=omega) [rd_old _ l3, r0, r1, hj, hj2, hj3, hj4, hz, h0, hj0];exact Red.rfl)))
    (with_reducible apply d_call); (simp; exact Red.rfl); exact cA _; (focus (first | (simp; done) | (simp; omega)))
    repeat (first|(with_reducible first|apply X1|apply X2|apply X3|apply X8)|((with_reducible first|apply e_end|apply d_end);(simp;exact Red.rfl))|((first|((with_reducible apply O1);rfl)|((with_reducible apply P1);rfl)|((with_reducible apply P3);rfl)|((with_reducible apply P4);rfl));(simp (disch:=omega);exact Red.rfl);exact Red.rfl;(focus (first|(simp;done)|omega|(simp;omega)))))
    have e1 : wyLo x j = wayLo x.tr (x.bm (j - 1)).k.toNat (x.bm j).k.toNat + ((x.bm j).lo - (x.bm (j - 1)).hi) := by rw [wyLo, if_neg h0]
    rw [e1]
    refine q_drop (.inr rfl) (by simp; exact Red.rfl) (by simp) ⟨rfl, rfl⟩
def okP1 (x : Ln) (j : Nat) : Prop := spW x j ∧ 1 ≤ wyLo x j ∧ 0 ≤ (x.bm j).ck ∧ (x.bm j).ck ≤ (x.nc : Int) - 1
def okPl (x : Ln) : Prop := ∀ j, j < x.nb → okP1 x j
set_option maxHeartbeats 4000000 in
theorem c_placed (H : Heap) (x : Ln) (p : LP) (h : LnAt H x p) (hv : validL x.tr) {b : Bool} (hb : b = true ↔ okPl x) :
    ACalls Try.prog F.beam_line_placed [.agg (x.av p)] H (fun v h' => v = .bool b ∧ h' = H) := by
  obtain ⟨l1, l2, l3⟩ := h.lt
  obtain ⟨n1, n2, n3⟩ := h.ln
  have row := fun i hi => h.brow (i := i) hi
  have kG := fun G j hj hk => c_wayG (H ++ G) x p (h.app G) hv j hj hk
  have kE := fun G j hj hk => c_wayE (H ++ G) x p (h.app G) hv j hj hk
  have cI := fun G => c_indC (H ++ G) (.slice p.cid p.coff x.nc 2 p.cex) x.nc (.inr ⟨_, _, _, _, rfl⟩) (by omega)
  simp only [Ln.av] at kG kE ⊢
  refine acalls_of ok_beam_line_placed rfl fun hcl => ?_
  unfold ac_beam_line_placed
  simp only [argsT, Nat.zero_add, Nat.reduceAdd]
  repeat (first|(with_reducible first|apply X1|apply X2|apply X6|apply X8)|((with_reducible apply e_end);(simp;exact Red.rfl))|((with_reducible apply O1);rfl;(simp (disch:=omega);exact Red.rfl);exact Red.rfl;(focus (first|(simp;done)|omega|(simp;omega)))))
  refine e_loop (ι := { j : Nat // j ≤ x.nb ∧ ∀ i, i < j → okP1 x i })
    (fun j => [(1, .ptr H.length 0), (9, .int .i64 x.nb), (10, .int .i64 j.1)])
    (fun _ => H ++ [.cells [.slice p.tid p.toff x.tr.length 9 p.tex, .int .i64 x.fast, .slice p.cid p.coff x.nc 2 p.cex, .slice p.bid p.boff x.nb 4 p.bex, .int .i64 x.fin, .int .i64 x.fakes, .int .i64 x.misses] true]) (fun j => x.nb - j.1) ⟨0, by omega, fun i hi => absurd hi (by omega)⟩ ?_ ?_
  · exact .inl rfl
  · rintro ⟨j, hj, hall⟩
    dsimp only
    by_cases hlt : j < x.nb
    · have hlt2 : (j : Int) < x.nb := by omega
      have hno : ¬ okP1 x j → b = false := fun hn => by
        cases b with
        | false => rfl
        | true => exact absurd (hb.1 rfl j hlt) hn
      have r3 := rd_sub (row j hlt) (j := 3) (m := 1) (by omega)
      simp only [Bm.av, List.drop_succ_cons, List.drop_zero, List.take_succ_cons, List.take_zero] at r3
      have hstep : okP1 x j → ∀ i, i < j + 1 → okP1 x i := fun h i hi => by
        rcases Nat.lt_or_ge i j with h1 | h1
        · exact hall i h1
        · obtain rfl : i = j := by omega
          exact h
      repeat (first|(with_reducible first|apply X1|apply X2|apply X5|apply X6|apply X8)|((with_reducible apply e_end);(simp;exact Red.rfl))|((with_reducible apply O1);rfl;(simp (disch:=omega) [hlt, hlt2];exact Red.rfl);exact Red.rfl;(focus (first|(simp;done)|omega|(simp;omega))))|((with_reducible apply Z9);(simp (disch:=omega) [hlt, hlt2];exact Red.rfl)))
      by_cases hk : spW x j
      rotate_left
      · obtain rfl := hno (fun h => hk h.1)
        (with_reducible apply e_call); (simp; exact Red.rfl); exact kE _ j hlt hk
        rintro _ _ ⟨rfl, rfl⟩
        repeat (first|(with_reducible first|apply X1|apply X2|apply X3|apply X8|apply X9|apply Y3|apply Y5|apply Y9)|((with_reducible first|apply e_end|apply d_end);(simp;exact Red.rfl))|((first|((with_reducible apply O1);rfl)|((with_reducible apply O2);rfl)|((with_reducible apply P1);rfl));(simp (disch:=omega);exact Red.rfl);exact Red.rfl;(focus (first|(simp;done)|omega|(simp;omega))))|((with_reducible apply Z9);(simp (disch:=omega);exact Red.rfl))|((with_reducible apply Z6);(simp (disch:=omega);exact Red.rfl)))
        refine q_drop (.inr rfl) (by simp; exact Red.rfl) (by simp) ⟨rfl, rfl⟩
      · (with_reducible apply e_call); (simp; exact Red.rfl); exact kG _ j hlt hk
        rintro _ _ ⟨rfl, rfl⟩
        by_cases hw : wyLo x j < 1
        · obtain rfl := hno (fun h => by have := h.2.1; omega)
          repeat (first|(with_reducible first|apply X1|apply X2|apply X3|apply X8|apply X9|apply Y3|apply Y5|apply Y9)|((with_reducible first|apply e_end|apply d_end);(simp;exact Red.rfl))|((first|((with_reducible apply O1);rfl)|((with_reducible apply O2);rfl)|((with_reducible apply P1);rfl)|((with_reducible apply P2);rfl));(simp (disch:=omega) [hw];exact Red.rfl);exact Red.rfl;(focus (first|(simp;done)|omega|(simp;omega))))|((with_reducible first|apply Z8|apply Z9);(simp (disch:=omega) [hw];exact Red.rfl))|((with_reducible apply Z6);(simp (disch:=omega) [hw];exact Red.rfl)))
          refine q_drop (.inr rfl) (by simp; exact Red.rfl) (by simp) ⟨rfl, rfl⟩
        · repeat (first|(with_reducible first|apply X1|apply X8|apply Y9)|((with_reducible apply e_end);(simp;exact Red.rfl))|((first|((with_reducible apply O1);rfl)|((with_reducible apply O2);rfl)|((with_reducible apply P1);rfl)|((with_reducible apply P2);rfl));(simp (disch:=omega) [hw];exact Red.rfl);exact Red.rfl;(focus (first|(simp;done)|omega|(simp;omega))))|((with_reducible apply Z8);(simp (disch:=omega) [hw];exact Red.rfl)))
          (with_reducible apply d_call); (simp; exact Red.rfl); exact cI _; (focus (first | (simp; done) | (simp; omega)))
          repeat (first|((first|((with_reducible apply P1);rfl)|((with_reducible apply P3);rfl));(simp (disch:=omega) [rd_old _ l3, r3, hlt, hlt2];exact Red.rfl);exact Red.rfl;(focus (first|(simp;done)|omega|(simp;omega))))|((with_reducible apply Z8);(simp (disch:=omega) [rd_old _ l3, r3, hlt, hlt2];exact Red.rfl))|((with_reducible apply P6);rfl;(simp (disch:=omega) [rd_old _ l3, r3, hlt, hlt2];exact Red.rfl);exact Red.rfl;(focus (first|(simp [pr];done)|(simp [pr];omega)))))
          by_cases hc : 0 ≤ (x.bm j).ck ∧ (x.bm j).ck ≤ (x.nc : Int) - 1
          · have hok := hstep ⟨hk, by omega, hc⟩
            (with_reducible apply d_call); (simp; exact Red.rfl); exact c_within1 _ 0 ((x.nc : Int) - 1) (x.bm j).ck (H.length + 2) 0 true (b := true) (by simp) (by simp; omega); (focus (first | (simp; done) | (simp; omega)))
            repeat (first|(with_reducible first|apply X2|apply X5|apply X8|apply Y2)|((with_reducible first|apply e_end|apply d_end);(simp;exact Red.rfl))|((first|((with_reducible apply O1);rfl)|((with_reducible apply P1);rfl));(simp (disch:=omega);exact Red.rfl);exact Red.rfl;(focus (first|(simp;done)|omega|(simp;omega))))|((with_reducible apply Z8);(simp (disch:=omega);exact Red.rfl))|((with_reducible apply W3);(simp (disch:=omega);exact Red.rfl)))
            refine q_again ⟨j + 1, hlt, hok⟩ (by dsimp only; omega) (.inr ?_)
            exact le_take (G := [_]) (by simp; omega) (by simp [Red])
          · obtain rfl := hno (fun h => hc h.2.2)
            (with_reducible apply d_call); (simp; exact Red.rfl); exact c_within1 _ 0 ((x.nc : Int) - 1) (x.bm j).ck (H.length + 2) 0 true (b := false) (by simp) (by simp; omega); (focus (first | (simp; done) | (simp; omega)))
            repeat (first|(with_reducible first|apply X1|apply X2|apply X3|apply X8|apply X9|apply Y3|apply Y5)|((with_reducible first|apply e_end|apply d_end);(simp;exact Red.rfl))|((first|((with_reducible apply O1);rfl)|((with_reducible apply P1);rfl));(simp (disch:=omega);exact Red.rfl);exact Red.rfl;(focus (first|(simp;done)|omega|(simp;omega))))|((with_reducible first|apply Z8|apply Z9);(simp (disch:=omega);exact Red.rfl)))
            refine q_drop (.inr rfl) (by simp; exact Red.rfl) (by simp) ⟨rfl, rfl⟩
    · obtain rfl : j = x.nb := by omega
      obtain rfl : b = true := hb.2 hall
      repeat (first|(with_reducible first|apply X1|apply X2|apply X3|apply X4|apply X8|apply Y1|apply Y4|apply Y6)|((with_reducible apply e_end);(simp;exact Red.rfl))|((with_reducible apply O1);rfl;(simp (disch:=omega);exact Red.rfl);exact Red.rfl;(focus (first|(simp;done)|omega|(simp;omega))))|((with_reducible apply W3);(simp (disch:=omega);exact Red.rfl)))
      refine q_drop (.inr rfl) (by simp; exact Red.rfl) (by simp) ⟨rfl, rfl⟩
end Go.Proofs
/- Whether a line is valid. -/
namespace Go.Proofs
open Go.Abs
attribute [local simp] AOp.den AOpd.ev lk cellsOf rd_new rd_new0 rd_zero rd_succ wr_new wr_new0 wr_zero wr_succ splice fillA binA scal sliceCells List.length_append argsT AV.sc scL AObj.sc resV getAll AR.get AOp.slots opdSlots opdsSlots partSlots eqAt at_new0 at_new set_new0 set_new wrap64
set_option linter.unusedSimpArgs false
set_option linter.unusedVariables false
def okLn (x : Ln) : Prop := okB x ∧ okT x ∧ okPl x
noncomputable def lnE (x : Ln) : Int := open Classical in if validL x.tr then (if okLn x then 0 else 50) else 10
theorem lnE_bad {x : Ln} (h : ¬ validL x.tr) : lnE x = 10 := by rw [lnE, if_neg h]
theorem lnE_no {x : Ln} (h : validL x.tr) (h2 : ¬ okLn x) : lnE x = 50 := by rw [lnE, if_pos h, if_neg h2]
theorem lnE_ok {x : Ln} (h : validL x.tr) (h2 : okLn x) : lnE x = 0 := by rw [lnE, if_pos h, if_pos h2]
theorem lnE_zero {x : Ln} (h : lnE x = 0) : validL x.tr ∧ okLn x := by
  by_cases hv : validL x.tr
  · by_cases ho : okLn x
    · exact ⟨hv, ho⟩
    · rw [lnE_no hv ho] at h; cases h
  · rw [lnE_bad hv] at h; cases h
theorem c_demands (H : Heap) : ACalls Try.prog F.beam_demands [] H (fun v h' => v = .agg [.fn (.func F.beam_line_bounded) [] [], .fn (.func F.beam_line_timed) [] [], .fn (.func F.beam_line_placed) [] []] ∧ h' = H) := by
  refine acalls_of ok_beam_demands rfl fun hcl => ?_
  unfold ac_beam_demands
  simp only [argsT, Nat.zero_add, Nat.reduceAdd]
  repeat (first|(with_reducible first|apply X1|apply X2|apply X3|apply X8)|((with_reducible apply e_end);(simp;exact Red.rfl))|((first|((with_reducible apply O1);rfl)|((with_reducible apply O2);rfl));(simp (disch:=omega);exact Red.rfl);exact Red.rfl;(focus (first|(simp;done)|omega|(simp;omega)))))
  refine q_drop (.inr rfl) (by simp; exact Red.rfl) (by simp) ⟨rfl, rfl⟩
theorem dec_b (P : Prop) : ∃ b : Bool, b = true ↔ P := by
  by_cases h : P
  · exact ⟨true, by simp [h]⟩
  · exact ⟨false, by simp [h]⟩
set_option maxHeartbeats 4000000 in
theorem c_CheckB (H : Heap) (x : Ln) (p : LP) (h : LnAt H x p) :
    ACalls Try.prog F.beam_Check [.agg (x.av p)] H (fun v h' => v = .int .i64 (lnE x) ∧ h' = H) := by
  obtain ⟨l1, l2, l3⟩ := h.lt
  obtain ⟨n1, n2, n3⟩ := h.ln
  have cC := fun G => c_Check (H ++ G) x.tr p.tid p.toff p.tex (by rw [rd_old _ l1]; exact h.tr) (by omega)
  have k1 := fun G b hb => c_bounded (H ++ G) x p (h.app G) (b := b) hb
  have k2 := fun G b hb => c_timed (H ++ G) x p (h.app G) (b := b) hb
  have k3 := fun G hv b hb => c_placed (H ++ G) x p (h.app G) hv (b := b) hb
  simp only [Ln.av] at k1 k2 k3 ⊢
  refine acalls_of ok_beam_Check rfl fun hcl => ?_
  unfold ac_beam_Check
  simp only [argsT, Nat.zero_add, Nat.reduceAdd]
  repeat (first|(with_reducible first|apply X1|apply X2|apply X8)|((with_reducible apply e_end);(simp;exact Red.rfl))|((with_reducible apply O1);rfl;(simp (disch:=omega);exact Red.rfl);exact Red.rfl;(focus (first|(simp;done)|omega|(simp;omega)))))
  (with_reducible apply e_call); (simp; exact Red.rfl); exact cC _
  rintro _ _ ⟨rfl, e, rfl, ⟨hv, rfl⟩ | ⟨hv, rfl⟩⟩
  rotate_left
  · rw [lnE_bad hv]
    repeat (first|(with_reducible first|apply X1|apply X2|apply X3|apply X8|apply X9)|((with_reducible apply e_end);(simp;exact Red.rfl))|((with_reducible apply O1);rfl;(simp (disch:=omega);exact Red.rfl);exact Red.rfl;(focus (first|(simp;done)|omega|(simp;omega))))|((with_reducible apply Z9);(simp (disch:=omega);exact Red.rfl)))
    refine q_drop (.inr rfl) (by simp; exact Red.rfl) (by simp) ⟨rfl, rfl⟩
  · repeat (first|(with_reducible first|apply X1|apply X2|apply X5|apply X8)|((with_reducible apply e_end);(simp;exact Red.rfl))|((with_reducible apply O1);rfl;(simp (disch:=omega);exact Red.rfl);exact Red.rfl;(focus (first|(simp;done)|omega|(simp;omega))))|((with_reducible apply W3);(simp (disch:=omega);exact Red.rfl)))
    (with_reducible apply e_call); (simp; exact Red.rfl); exact c_demands _
    rintro _ _ ⟨rfl, rfl⟩
    repeat (first|(with_reducible first|apply X6|apply X8)|((with_reducible apply e_end);(simp;exact Red.rfl))|((with_reducible apply O1);rfl;(simp (disch:=omega);exact Red.rfl);exact Red.rfl;(focus (first|(simp;done)|omega|(simp;omega)))))
    obtain ⟨b1, h1⟩ := dec_b (okB x)
    obtain ⟨b2, h2⟩ := dec_b (okT x)
    obtain ⟨b3, h3⟩ := dec_b (okPl x)
    refine e_loop (ι := { i : Nat // i ≤ 3 ∧ (0 < i → okB x) ∧ (1 < i → okT x) ∧ (2 < i → okPl x) })
      (fun i => [(1, .ptr H.length 0), (12, .agg [.fn (.func F.beam_line_bounded) [] [], .fn (.func F.beam_line_timed) [] [], .fn (.func F.beam_line_placed) [] []]), (13, .int .i64 i.1)])
      (fun _ => H ++ [.cells [.slice p.tid p.toff x.tr.length 9 p.tex, .int .i64 x.fast, .slice p.cid p.coff x.nc 2 p.cex, .slice p.bid p.boff x.nb 4 p.bex, .int .i64 x.fin, .int .i64 x.fakes, .int .i64 x.misses] true]) (fun i => 3 - i.1) ⟨0, by omega⟩ ?_ ?_
    · exact .inl rfl
    · rintro ⟨i, hi, g1, g2, g3⟩
      dsimp only
      have hno1 : b1 = false → lnE x = 50 := fun hb => lnE_no hv (fun ho => by rw [h1.2 ho.1] at hb; cases hb)
      have hno2 : b2 = false → lnE x = 50 := fun hb => lnE_no hv (fun ho => by rw [h2.2 ho.2.1] at hb; cases hb)
      have hno3 : b3 = false → lnE x = 50 := fun hb => lnE_no hv (fun ho => by rw [h3.2 ho.2.2] at hb; cases hb)
      have : i = 0 ∨ i = 1 ∨ i = 2 ∨ i = 3 := by omega
      rcases this with rfl | rfl | rfl | rfl
      · repeat (first|(with_reducible first|apply X1|apply X2|apply X5|apply X6|apply X8)|((with_reducible apply e_end);(simp;exact Red.rfl))|((first|((with_reducible apply O1);rfl)|((with_reducible apply O2);rfl));(simp (disch:=omega);exact Red.rfl);exact Red.rfl;(focus (first|(simp;done)|omega|(simp;omega))))|((with_reducible apply Z9);(simp (disch:=omega);exact Red.rfl)))
        (with_reducible apply e_callV); (simp; exact Red.rfl); (simp; exact Red.rfl); exact k1 _ b1 h1
        rintro _ _ ⟨rfl, rfl⟩
        cases b1 with
        | false =>
          rw [hno1 rfl]
          repeat (first|(with_reducible first|apply X1|apply X2|apply X3|apply X8|apply X9|apply Y3|apply Y5)|((with_reducible apply e_end);(simp;exact Red.rfl))|((with_reducible apply O1);rfl;(simp (disch:=omega);exact Red.rfl);exact Red.rfl;(focus (first|(simp;done)|omega|(simp;omega))))|((with_reducible apply Z9);(simp (disch:=omega);exact Red.rfl)))
          refine q_drop (.inr rfl) (by simp; exact Red.rfl) (by simp) ⟨rfl, rfl⟩
        | true =>
          have g := h1.1 rfl
          repeat (first|(with_reducible first|apply X2|apply X5|apply X8|apply Y2)|((with_reducible apply e_end);(simp;exact Red.rfl))|((with_reducible apply O1);rfl;(simp (disch:=omega);exact Red.rfl);exact Red.rfl;(focus (first|(simp;done)|omega|(simp;omega))))|((with_reducible apply W3);(simp (disch:=omega);exact Red.rfl)))
          refine q_again ⟨1, by omega, fun _ => g, by omega, by omega⟩ (by dsimp only; omega) (.inr ?_)
          exact le_take (G := [_]) (by simp; omega) (by simp [Red])
      · repeat (first|(with_reducible first|apply X1|apply X2|apply X5|apply X6|apply X8)|((with_reducible apply e_end);(simp;exact Red.rfl))|((first|((with_reducible apply O1);rfl)|((with_reducible apply O2);rfl));(simp (disch:=omega);exact Red.rfl);exact Red.rfl;(focus (first|(simp;done)|omega|(simp;omega))))|((with_reducible apply Z9);(simp (disch:=omega);exact Red.rfl)))
        (with_reducible apply e_callV); (simp; exact Red.rfl); (simp; exact Red.rfl); exact k2 _ b2 h2
        rintro _ _ ⟨rfl, rfl⟩
        cases b2 with
        | false =>
          rw [hno2 rfl]
          repeat (first|(with_reducible first|apply X1|apply X2|apply X3|apply X8|apply X9|apply Y3|apply Y5)|((with_reducible apply e_end);(simp;exact Red.rfl))|((with_reducible apply O1);rfl;(simp (disch:=omega);exact Red.rfl);exact Red.rfl;(focus (first|(simp;done)|omega|(simp;omega))))|((with_reducible apply Z9);(simp (disch:=omega);exact Red.rfl)))
          refine q_drop (.inr rfl) (by simp; exact Red.rfl) (by simp) ⟨rfl, rfl⟩
        | true =>
          have g := h2.1 rfl
          repeat (first|(with_reducible first|apply X2|apply X5|apply X8|apply Y2)|((with_reducible apply e_end);(simp;exact Red.rfl))|((with_reducible apply O1);rfl;(simp (disch:=omega);exact Red.rfl);exact Red.rfl;(focus (first|(simp;done)|omega|(simp;omega))))|((with_reducible apply W3);(simp (disch:=omega);exact Red.rfl)))
          refine q_again ⟨2, by omega, fun _ => g1 (by omega), fun _ => g, by omega⟩ (by dsimp only; omega) (.inr ?_)
          exact le_take (G := [_]) (by simp; omega) (by simp [Red])
      · repeat (first|(with_reducible first|apply X1|apply X2|apply X5|apply X6|apply X8)|((with_reducible apply e_end);(simp;exact Red.rfl))|((first|((with_reducible apply O1);rfl)|((with_reducible apply O2);rfl));(simp (disch:=omega);exact Red.rfl);exact Red.rfl;(focus (first|(simp;done)|omega|(simp;omega))))|((with_reducible apply Z9);(simp (disch:=omega);exact Red.rfl)))
        (with_reducible apply e_callV); (simp; exact Red.rfl); (simp; exact Red.rfl); exact k3 _ hv b3 h3
        rintro _ _ ⟨rfl, rfl⟩
        cases b3 with
        | false =>
          rw [hno3 rfl]
          repeat (first|(with_reducible first|apply X1|apply X2|apply X3|apply X8|apply X9|apply Y3|apply Y5)|((with_reducible apply e_end);(simp;exact Red.rfl))|((with_reducible apply O1);rfl;(simp (disch:=omega);exact Red.rfl);exact Red.rfl;(focus (first|(simp;done)|omega|(simp;omega))))|((with_reducible apply Z9);(simp (disch:=omega);exact Red.rfl)))
          refine q_drop (.inr rfl) (by simp; exact Red.rfl) (by simp) ⟨rfl, rfl⟩
        | true =>
          have g := h3.1 rfl
          repeat (first|(with_reducible first|apply X2|apply X5|apply X8|apply Y2)|((with_reducible apply e_end);(simp;exact Red.rfl))|((with_reducible apply O1);rfl;(simp (disch:=omega);exact Red.rfl);exact Red.rfl;(focus (first|(simp;done)|omega|(simp;omega))))|((with_reducible apply W3);(simp (disch:=omega);exact Red.rfl)))
          refine q_again ⟨3, by omega, fun _ => g1 (by omega), fun _ => g2 (by omega), fun _ => g⟩ (by dsimp only; omega) (.inr ?_)
          exact le_take (G := [_]) (by simp; omega) (by simp [Red])
      · rw [lnE_ok hv ⟨g1 (by omega), g2 (by omega), g3 (by omega)⟩]
        repeat (first|(with_reducible first|apply X1|apply X2|apply X3|apply X4|apply X8|apply Y1|apply Y4|apply Y6)|((with_reducible apply e_end);(simp;exact Red.rfl))|((with_reducible apply O1);rfl;(simp (disch:=omega);exact Red.rfl);exact Red.rfl;(focus (first|(simp;done)|omega|(simp;omega))))|((with_reducible apply W3);(simp (disch:=omega);exact Red.rfl)))
        refine q_drop (.inr rfl) (by simp; exact Red.rfl) (by simp) ⟨rfl, rfl⟩
end Go.Proofs
