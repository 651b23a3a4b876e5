/- Several texts as one. -/
import Derived.Test.YtdjneegacogklaaSC
import Derived.Test.YtdjneegacogklaaRunSlideAlive
/- Ends of spans: tracks and sleds of which one number is left of each span. -/
namespace Go.Proofs
open Go.Abs
attribute [local simp] AOp.den AOpd.ev lk cellsOf rd_new rd_new0 rd_zero rd_succ wr_new wr_new0 wr_zero wr_succ splice fillA binA scal sliceCells List.length_append argsT AV.sc scL AObj.sc resV getAll AR.get AOp.slots opdSlots opdsSlots partSlots eqAt at_new0 at_new set_new0 set_new wrap64
set_option linter.unusedSimpArgs false
set_option linter.unusedVariables false
theorem c_Twin (H : Heap) (l : List Str) (id off : Nat) (ex : Bool) (hs : rd H id off (l.length * 9) = some (l.flatMap Str.av)) (hn : l.length ≤ 1000) :
    ACalls Try.prog F.ref01_Twin [.agg [.slice id off l.length 9 ex]] H (fun v h' => v = .agg [.slice H.length 0 l.length 9 false] ∧ h' = H ++ [.cells (l.flatMap Str.av) true]) := by
  refine acalls_of ok_ref01_Twin rfl fun hcl => ?_
  unfold ac_ref01_Twin
  simp only [argsT, Nat.zero_add, Nat.reduceAdd]
  have hid := rd_lt hs
  have pl := (plain_str l).plain l.length
  rw [flat_eq] at hs ⊢
  repeat (first|(with_reducible first|apply X1|apply X2|apply X3|apply X8)|((with_reducible apply e_end);(simp;exact Red.rfl))|((first|((with_reducible apply O1);rfl)|((with_reducible apply O2);rfl));(simp (disch:=omega) [rd_old _ hid, hs, pl.scal];exact Red.rfl);exact Red.rfl;(focus (first|(simp;done)|omega|(simp;omega)))))
  exact q_post (v' := .agg [.slice H.length 0 l.length 9 false]) (.inr rfl) (by simp; exact Red.rfl) (le_plain [3] _ (by simp) rfl (by simp; exact pl.o _) (by simp [sh, AV.ren, renL])) ⟨rfl, rfl⟩

theorem c3_span (H : Heap) (a b : Int) : ACalls Try.prog F.law03_span [.int .i64 a, .int .i64 b] H (fun v h' => v = .agg [.int .i64 a, .int .i64 b] ∧ h' = H) := by
  refine acalls_of ok_law03_span rfl fun hcl => ?_
  unfold ac_law03_span
  simp only [argsT, Nat.zero_add, Nat.reduceAdd]
  repeat (first|(with_reducible first|apply X1|apply X2|apply X3|apply X8)|((with_reducible apply e_end);(simp;exact Red.rfl))|((first|((with_reducible apply O1);rfl)|((with_reducible apply O2);rfl));(simp (disch:=omega);exact Red.rfl);exact Red.rfl;(focus (first|(simp;done)|omega|(simp;omega)))))
  refine q_drop (.inr rfl) (by simp; exact Red.rfl) (by simp) ⟨rfl, rfl⟩

def lowS (x : Str) : Str := ⟨x.id, x.lHi, x.lHi, x.fLo, x.fLo, x.rHi, x.rHi, x.side, x.wall⟩
def highS (x : Str) : Str := ⟨x.id, x.lLo, x.lLo, x.fHi, x.fHi, x.rLo, x.rLo, x.side, x.wall⟩
def slowS (s : Sl) : Sl := ⟨s.c, s.s1, s.s1, s.r2, s.r2, s.d2, s.d2, s.w1, s.w1, s.t1, s.t1⟩
def fastS (s : Sl) : Sl := ⟨s.c, s.s2, s.s2, s.r1, s.r1, s.d1, s.d1, s.w2, s.w2, s.t2, s.t2⟩
/-- The list in which some stretches are done. -/
def doneS (g : Str → Str) (l : List Str) (i j : Nat) : Str := if j < i then g (strAt l j) else strAt l j

theorem done0 (g : Str → Str) (l : List Str) : avR (fun j => (doneS g l 0 j).av) l.length = avR (fun j => (strAt l j).av) l.length := avR_congr fun j _ => by simp [doneS]
theorem doneN (g : Str → Str) (l : List Str) : avR (fun j => (doneS g l l.length j).av) l.length = avR (fun j => (g (strAt l j)).av) l.length := avR_congr fun j hj => by simp only [doneS]; rw [if_pos hj]
theorem done_step (g : Str → Str) (l : List Str) (i : Nat) (x1 x2 x3 : Str) (h : x3 = g (strAt l i)) :
    avR (fun j => (updS (updS (updS (doneS g l i) i x1) i x2) i x3 j).av) l.length = avR (fun j => (doneS g l (i + 1) j).av) l.length := avR_congr fun j _ => by
  by_cases hj : j = i
  · subst hj; rw [updS_i, h]; simp [doneS]
  · rw [updS_ne _ _ hj, updS_ne _ _ hj, updS_ne _ _ hj]
    simp only [doneS]
    by_cases h1 : j < i
    · rw [if_pos h1, if_pos (by omega)]
    · rw [if_neg h1, if_neg (by omega)]

set_option maxHeartbeats 4000000 in
theorem c3_ends (H : Heap) (l : List Str) (s : Sl) (id off : Nat) (ex : Bool) (hs : rd H id off (l.length * 9) = some (l.flatMap Str.av)) (hn : l.length ≤ 1000) :
    ACalls Try.prog F.law03_ends [.agg [.slice id off l.length 9 ex], .agg s.av] H (fun v h' => v = .tuple [.agg [.slice H.length 0 l.length 9 false], .agg [.slice (H.length + 1) 0 l.length 9 false], .agg (slowS s).av, .agg (fastS s).av] ∧
      h' = H ++ [.cells (avR (fun j => (lowS (strAt l j)).av) l.length) true, .cells (avR (fun j => (highS (strAt l j)).av) l.length) true]) := by
  have hid := rd_lt hs
  simp only [Sl.av]
  refine acalls_of ok_law03_ends rfl fun hcl => ?_
  unfold ac_law03_ends
  simp only [argsT, Nat.zero_add, Nat.reduceAdd]
  repeat (first|(with_reducible first|apply X1|apply X2|apply X8|apply Y9)|((with_reducible apply e_end);(simp;exact Red.rfl))|((first|((with_reducible apply O1);rfl)|((with_reducible apply P2);rfl));(simp (disch:=omega);exact Red.rfl);exact Red.rfl;(focus (first|(simp;done)|omega|(simp;omega)))))
  (with_reducible apply d_call_); (simp; exact Red.rfl); exact c_Twin _ l id off ex (by simp only [List.append_assoc, rd_old _ hid]; exact hs) hn; (focus (first | (simp; done) | (simp; omega)))
  repeat ((with_reducible apply P7);rfl;(simp (disch:=omega);exact Red.rfl);exact Red.rfl;(focus (simp [repast, pr, AOp.sem];done)))
  (with_reducible apply d_call_); (simp; exact Red.rfl); exact c_Twin _ l id off ex (by simp only [List.append_assoc, rd_old _ hid]; exact hs) hn; (focus (first | (simp; done) | (simp; omega)))
  repeat ((with_reducible apply P7);rfl;(simp (disch:=omega);exact Red.rfl);exact Red.rfl;(focus (simp [repast, pr, AOp.sem];done)))
  (with_reducible apply d_do_); rfl; rfl; (simp (disch := omega); exact Red.rfl); exact Red.rfl
  · (first | (simp; done) | omega | (simp; omega))
  · (first | (simp; done) | omega | (simp; omega))
  · (first | (simp; done) | omega | (simp; omega))
  · simp [recheck, pr, AOp.sem]
  simp only [St.put]
  skip
  (with_reducible apply d_do_); rfl; rfl; (simp (disch := omega); exact Red.rfl); exact Red.rfl
  · (first | (simp; done) | omega | (simp; omega))
  · (first | (simp; done) | omega | (simp; omega))
  · (first | (simp; done) | omega | (simp; omega))
  · simp [recheck, pr, AOp.sem]
  simp only [St.put]
  skip
  (with_reducible apply d_do_); rfl; rfl; (simp (disch := omega); exact Red.rfl); exact Red.rfl
  · (first | (simp; done) | omega | (simp; omega))
  · (first | (simp; done) | omega | (simp; omega))
  · (first | (simp; done) | omega | (simp; omega))
  · simp [recheck, pr, AOp.sem]
  simp only [St.put]
  repeat (first|(with_reducible first|apply X1|apply X2|apply X6|apply X8)|((with_reducible first|apply e_end|apply d_end);(simp;exact Red.rfl))|((first|((with_reducible apply O1);rfl)|((with_reducible apply P4);rfl));(simp (disch:=omega);exact Red.rfl);exact Red.rfl;(focus (first|(simp;done)|omega|(simp;omega)))))
  rw [flat_eq, ← done0 lowS]
  rw [show avR (fun j => (doneS lowS l 0 j).av) l.length = avR (fun j => (doneS lowS l 0 j).av) l.length from rfl]
  refine e_loop (ι := { i : Nat // i ≤ l.length })
    (fun i => [(3, .ptr (H.length + 1) 0), (4, .ptr (H.length + 2) 0), (5, .ptr (H.length + 3) 0), (6, .ptr (H.length + 4) 0), (7, .ptr (H.length + 5) 0), (19, .slice id off l.length 9 ex), (20, .int .i64 l.length), (21, .int .i64 i.1)])
    (fun i => H ++ [.cells [.slice id off l.length 9 ex] true, .cells [.int .u8 s.c, .int .i64 s.s1, .int .i64 s.s2, .int .i64 s.r1, .int .i64 s.r2, .int .i64 s.d1, .int .i64 s.d2, .int .i64 s.w1, .int .i64 s.w2, .int .i64 s.t1, .int .i64 s.t2] true, .cells [.slice (H.length + 6) 0 l.length 9 false] true, .cells [.slice (H.length + 7) 0 l.length 9 false] true, .cells [.int .u8 s.c, .int .i64 s.s1, .int .i64 s.s2, .int .i64 s.r1, .int .i64 s.r2, .int .i64 s.d1, .int .i64 s.d2, .int .i64 s.w1, .int .i64 s.w2, .int .i64 s.t1, .int .i64 s.t2] true, .cells [.int .u8 s.c, .int .i64 s.s1, .int .i64 s.s2, .int .i64 s.r1, .int .i64 s.r2, .int .i64 s.d1, .int .i64 s.d2, .int .i64 s.w1, .int .i64 s.w2, .int .i64 s.t1, .int .i64 s.t2] true,
      .cells (avR (fun j => (doneS lowS l i.1 j).av) l.length) true, .cells (avR (fun j => (doneS highS l i.1 j).av) l.length) true]) (fun i => l.length - i.1) ⟨0, by simp⟩ ?_ ?_
  · refine .inl ?_
    rw [done0 lowS, done0 highS]
    rfl
  · rintro ⟨i, hi⟩
    dsimp only
    by_cases hlt : i < l.length
    · have hlt2 : (i : Int) < l.length := by omega
      have hx := rd_row Str.av_length hs hlt
      have hst := strAt_eq hlt
      generalize hsi : l[i] = st at hx hst
      obtain ⟨a1, a2, a3, a4, a5, a6, a7, a8, a9⟩ := st
      simp only [Str.av] at hx
      have dl : doneS lowS l i i = ⟨a1, a2, a3, a4, a5, a6, a7, a8, a9⟩ := by simp [doneS, hst]
      have dh : doneS highS l i i = ⟨a1, a2, a3, a4, a5, a6, a7, a8, a9⟩ := by simp [doneS, hst]
      have wl1 : splice (avR (fun j => (doneS lowS l i j).av) l.length) (i * 9 + 1) [.int .i64 a3, .int .i64 a3] = _ := putS (doneS lowS l i) ⟨a1, a3, a3, a4, a5, a6, a7, a8, a9⟩ hlt (by simp) (by rw [dl]; rfl)
      have wl2 : splice (avR (fun j => (updS (doneS lowS l i) i ⟨a1, a3, a3, a4, a5, a6, a7, a8, a9⟩ j).av) l.length) (i * 9 + 3) [.int .i64 a4, .int .i64 a4] = _ := putS (updS (doneS lowS l i) i ⟨a1, a3, a3, a4, a5, a6, a7, a8, a9⟩) ⟨a1, a3, a3, a4, a4, a6, a7, a8, a9⟩ hlt (by simp) (by rw [updS_i]; rfl)
      have wl3 : splice (avR (fun j => (updS (updS (doneS lowS l i) i ⟨a1, a3, a3, a4, a5, a6, a7, a8, a9⟩) i ⟨a1, a3, a3, a4, a4, a6, a7, a8, a9⟩ j).av) l.length) (i * 9 + 5) [.int .i64 a7, .int .i64 a7] = _ := putS (updS (updS (doneS lowS l i) i ⟨a1, a3, a3, a4, a5, a6, a7, a8, a9⟩) i ⟨a1, a3, a3, a4, a4, a6, a7, a8, a9⟩) ⟨a1, a3, a3, a4, a4, a7, a7, a8, a9⟩ hlt (by simp) (by rw [updS_i]; rfl)
      have wh1 : splice (avR (fun j => (doneS highS l i j).av) l.length) (i * 9 + 1) [.int .i64 a2, .int .i64 a2] = _ := putS (doneS highS l i) ⟨a1, a2, a2, a4, a5, a6, a7, a8, a9⟩ hlt (by simp) (by rw [dh]; rfl)
      have wh2 : splice (avR (fun j => (updS (doneS highS l i) i ⟨a1, a2, a2, a4, a5, a6, a7, a8, a9⟩ j).av) l.length) (i * 9 + 3) [.int .i64 a5, .int .i64 a5] = _ := putS (updS (doneS highS l i) i ⟨a1, a2, a2, a4, a5, a6, a7, a8, a9⟩) ⟨a1, a2, a2, a5, a5, a6, a7, a8, a9⟩ hlt (by simp) (by rw [updS_i]; rfl)
      have wh3 : splice (avR (fun j => (updS (updS (doneS highS l i) i ⟨a1, a2, a2, a4, a5, a6, a7, a8, a9⟩) i ⟨a1, a2, a2, a5, a5, a6, a7, a8, a9⟩ j).av) l.length) (i * 9 + 5) [.int .i64 a6, .int .i64 a6] = _ := putS (updS (updS (doneS highS l i) i ⟨a1, a2, a2, a4, a5, a6, a7, a8, a9⟩) i ⟨a1, a2, a2, a5, a5, a6, a7, a8, a9⟩) ⟨a1, a2, a2, a5, a5, a6, a6, a8, a9⟩ hlt (by simp) (by rw [updS_i]; rfl)
      have fl := done_step lowS l i ⟨a1, a3, a3, a4, a5, a6, a7, a8, a9⟩ ⟨a1, a3, a3, a4, a4, a6, a7, a8, a9⟩ ⟨a1, a3, a3, a4, a4, a7, a7, a8, a9⟩ (by rw [hst]; rfl)
      have fh := done_step highS l i ⟨a1, a2, a2, a4, a5, a6, a7, a8, a9⟩ ⟨a1, a2, a2, a5, a5, a6, a7, a8, a9⟩ ⟨a1, a2, a2, a5, a5, a6, a6, a8, a9⟩ (by rw [hst]; rfl)
      have le1 : i * 9 + 1 + 2 ≤ l.length * 9 := by omega
      have le2 : i * 9 + 3 + 2 ≤ l.length * 9 := by omega
      have le3 : i * 9 + 5 + 2 ≤ l.length * 9 := by omega
      have le1' : i * 9 + 3 ≤ l.length * 9 := by omega
      have le2' : i * 9 + 5 ≤ l.length * 9 := by omega
      have le3' : i * 9 + 7 ≤ l.length * 9 := by omega
      repeat (first|(with_reducible first|apply X1|apply X2|apply X5|apply X6|apply X8|apply Y9)|((with_reducible first|apply e_end|apply d_end);(simp;exact Red.rfl))|((first|((with_reducible apply O1);rfl)|((with_reducible apply O2);rfl)|((with_reducible apply P1);rfl)|((with_reducible apply P2);rfl));(simp (disch:=omega) [hlt, hlt2, rd_old _ hid, hx, lenS, -splice, le1, le2, le3, le1', le2', le3', wl1, wl2, wl3, wh1, wh2, wh3];exact Red.rfl);exact Red.rfl;(focus (first|(simp;done)|omega|(simp;omega))))|((with_reducible apply Z9);(simp (disch:=omega) [hlt, hlt2, rd_old _ hid, hx, lenS, -splice, le1, le2, le3, le1', le2', le3', wl1, wl2, wl3, wh1, wh2, wh3];exact Red.rfl)))
      (with_reducible apply d_call); (simp; exact Red.rfl); exact c3_span _ _ _; (focus (first | (simp; done) | (simp; omega)))
      repeat (first|((with_reducible apply P1);rfl;(simp (disch:=omega) [hlt, hlt2, lenS, -splice, le1, le2, le3, le1', le2', le3', wl1, wl2, wl3, wh1, wh2, wh3];exact Red.rfl);exact Red.rfl;(focus (first|(simp;done)|omega|(simp;omega))))|((with_reducible apply P6);rfl;(simp (disch:=omega) [hlt, hlt2, lenS, -splice, le1, le2, le3, le1', le2', le3', wl1, wl2, wl3, wh1, wh2, wh3];exact Red.rfl);exact Red.rfl;(focus (first|(simp [pr];done)|(simp [pr];omega)))))
      (with_reducible apply d_call); (simp; exact Red.rfl); exact c3_span _ _ _; (focus (first | (simp; done) | (simp; omega)))
      repeat (first|(with_reducible first|apply X1|apply X8|apply Y9)|((with_reducible apply d_end);(simp;exact Red.rfl))|((first|((with_reducible apply P1);rfl)|((with_reducible apply P2);rfl)|((with_reducible apply P4);rfl));(simp (disch:=omega) [hlt, hlt2, lenS, -splice, le1, le2, le3, le1', le2', le3', wl1, wl2, wl3, wh1, wh2, wh3];exact Red.rfl);exact Red.rfl;(focus (first|(simp;done)|omega|(simp;omega)))))
      (with_reducible apply d_call); (simp; exact Red.rfl); exact c3_span _ _ _; (focus (first | (simp; done) | (simp; omega)))
      repeat (first|((with_reducible apply P1);rfl;(simp (disch:=omega) [hlt, hlt2, lenS, -splice, le1, le2, le3, le1', le2', le3', wl1, wl2, wl3, wh1, wh2, wh3];exact Red.rfl);exact Red.rfl;(focus (first|(simp;done)|omega|(simp;omega))))|((with_reducible apply P6);rfl;(simp (disch:=omega) [hlt, hlt2, lenS, -splice, le1, le2, le3, le1', le2', le3', wl1, wl2, wl3, wh1, wh2, wh3];exact Red.rfl);exact Red.rfl;(focus (first|(simp [pr];done)|(simp [pr];omega)))))
      (with_reducible apply d_call); (simp; exact Red.rfl); exact c3_span _ _ _; (focus (first | (simp; done) | (simp; omega)))
      repeat (first|(with_reducible first|apply X8|apply Y9)|((with_reducible apply d_end);(simp;exact Red.rfl))|((first|((with_reducible apply P1);rfl)|((with_reducible apply P2);rfl)|((with_reducible apply P4);rfl));(simp (disch:=omega) [hlt, hlt2, lenS, -splice, le1, le2, le3, le1', le2', le3', wl1, wl2, wl3, wh1, wh2, wh3];exact Red.rfl);exact Red.rfl;(focus (first|(simp;done)|omega|(simp;omega)))))
      (with_reducible apply d_call); (simp; exact Red.rfl); exact c3_span _ _ _; (focus (first | (simp; done) | (simp; omega)))
      repeat (first|((with_reducible apply P1);rfl;(simp (disch:=omega) [hlt, hlt2, lenS, -splice, le1, le2, le3, le1', le2', le3', wl1, wl2, wl3, wh1, wh2, wh3];exact Red.rfl);exact Red.rfl;(focus (first|(simp;done)|omega|(simp;omega))))|((with_reducible apply P6);rfl;(simp (disch:=omega) [hlt, hlt2, lenS, -splice, le1, le2, le3, le1', le2', le3', wl1, wl2, wl3, wh1, wh2, wh3];exact Red.rfl);exact Red.rfl;(focus (first|(simp [pr];done)|(simp [pr];omega)))))
      (with_reducible apply d_call); (simp; exact Red.rfl); exact c3_span _ _ _; (focus (first | (simp; done) | (simp; omega)))
      repeat (first|(with_reducible first|apply X2|apply X8|apply Y2)|((with_reducible first|apply e_end|apply d_end);(simp;exact Red.rfl))|((first|((with_reducible apply O1);rfl)|((with_reducible apply P1);rfl)|((with_reducible apply P4);rfl));(simp (disch:=omega) [hlt, hlt2, lenS, -splice, le1, le2, le3, le1', le2', le3', wl1, wl2, wl3, wh1, wh2, wh3];exact Red.rfl);exact Red.rfl;(focus (first|(simp;done)|omega|(simp;omega)))))
      refine q_again ⟨i + 1, by omega⟩ (by dsimp only; omega) (.inr ?_)
      rw [fl, fh]
      have pl1 := (plain_fun (doneS lowS l (i + 1))).plain l.length
      have pl2 := (plain_fun (doneS highS l (i + 1))).plain l.length
      exact le_take (G := [_, _, _, _, _, _, _, _]) (G2 := [_]) (by simp [pl1.sc, pl2.sc] <;> omega) (by simp [Red, hid] <;> omega)
    · obtain rfl : i = l.length := by omega
      rw [doneN, doneN]
      repeat (first|(with_reducible first|apply X1|apply X2|apply X4|apply X8|apply Y1|apply Y4|apply Y6|apply Y9)|((with_reducible apply e_end);(simp;exact Red.rfl))|((first|((with_reducible apply O1);rfl)|((with_reducible apply P1);rfl)|((with_reducible apply P2);rfl));(simp (disch:=omega);exact Red.rfl);exact Red.rfl;(focus (first|(simp;done)|omega|(simp;omega))))|((with_reducible apply W3);(simp (disch:=omega);exact Red.rfl)))
      (with_reducible apply d_call); (simp; exact Red.rfl); exact c3_span _ _ _; (focus (first | (simp; done) | (simp; omega)))
      repeat (first|((with_reducible apply P1);rfl;(simp (disch:=omega);exact Red.rfl);exact Red.rfl;(focus (first|(simp;done)|omega|(simp;omega))))|((with_reducible apply P6);rfl;(simp (disch:=omega);exact Red.rfl);exact Red.rfl;(focus (first|(simp [pr];done)|(simp [pr];omega)))))
      (with_reducible apply d_call); (simp; exact Red.rfl); exact c3_span _ _ _; (focus (first | (simp; done) | (simp; omega)))
      repeat (first|(with_reducible first|apply X1|apply X8|apply Y9)|((with_reducible apply d_end);(simp;exact Red.rfl))|((first|((with_reducible apply P1);rfl)|((with_reducible apply P2);rfl)|((with_reducible apply P4);rfl));(simp (disch:=omega);exact Red.rfl);exact Red.rfl;(focus (first|(simp;done)|omega|(simp;omega)))))
      (with_reducible apply d_call); (simp; exact Red.rfl); exact c3_span _ _ _; (focus (first | (simp; done) | (simp; omega)))
      repeat (first|((with_reducible apply P1);rfl;(simp (disch:=omega);exact Red.rfl);exact Red.rfl;(focus (first|(simp;done)|omega|(simp;omega))))|((with_reducible apply P6);rfl;(simp (disch:=omega);exact Red.rfl);exact Red.rfl;(focus (first|(simp [pr];done)|(simp [pr];omega)))))
      (with_reducible apply d_call); (simp; exact Red.rfl); exact c3_span _ _ _; (focus (first | (simp; done) | (simp; omega)))
      repeat (first|(with_reducible first|apply X1|apply X8|apply Y9)|((with_reducible apply d_end);(simp;exact Red.rfl))|((first|((with_reducible apply P1);rfl)|((with_reducible apply P2);rfl)|((with_reducible apply P4);rfl));(simp (disch:=omega);exact Red.rfl);exact Red.rfl;(focus (first|(simp;done)|omega|(simp;omega)))))
      (with_reducible apply d_call); (simp; exact Red.rfl); exact c3_span _ _ _; (focus (first | (simp; done) | (simp; omega)))
      repeat (first|((with_reducible apply P1);rfl;(simp (disch:=omega);exact Red.rfl);exact Red.rfl;(focus (first|(simp;done)|omega|(simp;omega))))|((with_reducible apply P6);rfl;(simp (disch:=omega);exact Red.rfl);exact Red.rfl;(focus (first|(simp [pr];done)|(simp [pr];omega)))))
      (with_reducible apply d_call); (simp; exact Red.rfl); exact c3_span _ _ _; (focus (first | (simp; done) | (simp; omega)))
      repeat (first|(with_reducible first|apply X1|apply X8|apply Y9)|((with_reducible apply d_end);(simp;exact Red.rfl))|((first|((with_reducible apply P1);rfl)|((with_reducible apply P2);rfl)|((with_reducible apply P4);rfl));(simp (disch:=omega);exact Red.rfl);exact Red.rfl;(focus (first|(simp;done)|omega|(simp;omega)))))
      (with_reducible apply d_call); (simp; exact Red.rfl); exact c3_span _ _ _; (focus (first | (simp; done) | (simp; omega)))
      repeat (first|((with_reducible apply P1);rfl;(simp (disch:=omega);exact Red.rfl);exact Red.rfl;(focus (first|(simp;done)|omega|(simp;omega))))|((with_reducible apply P6);rfl;(simp (disch:=omega);exact Red.rfl);exact Red.rfl;(focus (first|(simp [pr];done)|(simp [pr];omega)))))
      (with_reducible apply d_call); (simp; exact Red.rfl); exact c3_span _ _ _; (focus (first | (simp; done) | (simp; omega)))
      repeat (first|(with_reducible first|apply X1|apply X8|apply Y9)|((with_reducible apply d_end);(simp;exact Red.rfl))|((first|((with_reducible apply P1);rfl)|((with_reducible apply P2);rfl)|((with_reducible apply P4);rfl));(simp (disch:=omega);exact Red.rfl);exact Red.rfl;(focus (first|(simp;done)|omega|(simp;omega)))))
      (with_reducible apply d_call); (simp; exact Red.rfl); exact c3_span _ _ _; (focus (first | (simp; done) | (simp; omega)))
      repeat (first|((with_reducible apply P1);rfl;(simp (disch:=omega);exact Red.rfl);exact Red.rfl;(focus (first|(simp;done)|omega|(simp;omega))))|((with_reducible apply P6);rfl;(simp (disch:=omega);exact Red.rfl);exact Red.rfl;(focus (first|(simp [pr];done)|(simp [pr];omega)))))
      (with_reducible apply d_call); (simp; exact Red.rfl); exact c3_span _ _ _; (focus (first | (simp; done) | (simp; omega)))
      repeat (first|(with_reducible first|apply X1|apply X8|apply Y9)|((with_reducible apply d_end);(simp;exact Red.rfl))|((first|((with_reducible apply P1);rfl)|((with_reducible apply P2);rfl)|((with_reducible apply P4);rfl));(simp (disch:=omega);exact Red.rfl);exact Red.rfl;(focus (first|(simp;done)|omega|(simp;omega)))))
      (with_reducible apply d_do_); rfl; rfl; (simp (disch := omega); exact Red.rfl); exact Red.rfl
      · (first | (simp; done) | omega | (simp; omega))
      · (first | (simp; done) | omega | (simp; omega))
      · (first | (simp; done) | omega | (simp; omega))
      · simp [recheck, pr, AOp.sem]
      simp only [St.put]
      skip
      (with_reducible apply d_do_); rfl; rfl; (simp (disch := omega); exact Red.rfl); exact Red.rfl
      · (first | (simp; done) | omega | (simp; omega))
      · (first | (simp; done) | omega | (simp; omega))
      · (first | (simp; done) | omega | (simp; omega))
      · simp [recheck, pr, AOp.sem]
      simp only [St.put]
      skip
      (with_reducible apply d_do_); rfl; rfl; (simp (disch := omega); exact Red.rfl); exact Red.rfl
      · (first | (simp; done) | omega | (simp; omega))
      · (first | (simp; done) | omega | (simp; omega))
      · (first | (simp; done) | omega | (simp; omega))
      · simp [recheck, pr, AOp.sem]
      simp only [St.put]
      repeat (first|(with_reducible first|apply X3|apply X8)|((with_reducible apply d_end);(simp;exact Red.rfl))|((with_reducible apply P4);rfl;(simp (disch:=omega);exact Red.rfl);exact Red.rfl;(focus (first|(simp;done)|omega|(simp;omega)))))
      have plA := (plain_fun (fun j => lowS (strAt l j))).plain l.length
      have plB := (plain_fun (fun j => highS (strAt l j))).plain l.length
      exact q_post (v' := .tuple [.agg [.slice H.length 0 l.length 9 false], .agg [.slice (H.length + 1) 0 l.length 9 false], .agg (slowS s).av, .agg (fastS s).av]) (.inr rfl) (by simp; exact Red.rfl)
        (le_plain [6, 7] [_, _] (by simp) rfl (by
          intro o ho; simp only [List.mem_cons, List.not_mem_nil, or_false] at ho
          rcases ho with rfl | rfl
          · exact plA.o _
          · exact plB.o _) (by simp [sh, AV.ren, renL, slowS, fastS, Sl.av])) ⟨rfl, rfl⟩
end Go.Proofs
/- SlideEnds, the law's contract. -/
namespace Go.Proofs
open Go.Abs
attribute [local simp] AOp.den AOpd.ev lk cellsOf rd_new rd_new0 rd_zero rd_succ wr_new wr_new0 wr_zero wr_succ splice fillA binA scal sliceCells List.length_append argsT AV.sc scL AObj.sc resV getAll AR.get AOp.slots opdSlots opdsSlots partSlots eqAt at_new0 at_new set_new0 set_new wrap64
set_option linter.unusedSimpArgs false
set_option linter.unusedVariables false
theorem hdG_congr {st d w : Int} {r r' L L' f f' : Nat → Int} {n : Nat} (hr : ∀ j, j < n → r j = r' j) (hL : ∀ j, j < n → L j = L' j) (hf : ∀ j, j < n → f j = f' j) : ∀ i, i ≤ n → hdG st d w r L f i = hdG st d w r' L' f' i
  | 0, _ => rfl
  | i + 1, hi => by simp only [hdG]; rw [hdG_congr hr hL hf i (by omega), hr i (by omega), hL i (by omega), hf i (by omega)]
theorem up_same (t : Bool) (a : Int) : up t a a = a := by cases t <;> rfl
theorem dn_same (t : Bool) (a : Int) : dn t a a = a := by cases t <;> rfl
def lowL (l : List Str) : List Str := listS (fun j => lowS (strAt l j)) l.length
def highL (l : List Str) : List Str := listS (fun j => highS (strAt l j)) l.length
theorem hd_low (t : Bool) (s : Sl) (l : List Str) {i : Nat} (hi : i ≤ l.length) : hd t (slowS s) (lowL l) i = hd false s l i := by
  unfold hd
  simp only [slowS, up_same, dn_same]
  refine hdG_congr (n := l.length) (fun _ _ => rfl) (fun j hj => ?_) (fun j hj => ?_) i hi
  · rw [show strAt (lowL l) j = lowS (strAt l j) from listS_get _ hj]; simp [lowS, dn_same, dn]
  · rw [show strAt (lowL l) j = lowS (strAt l j) from listS_get _ hj]; simp [lowS, up_same, up]
theorem hd_high (t : Bool) (s : Sl) (l : List Str) {i : Nat} (hi : i ≤ l.length) : hd t (fastS s) (highL l) i = hd true s l i := by
  unfold hd
  simp only [fastS, up_same, dn_same]
  refine hdG_congr (n := l.length) (fun _ _ => rfl) (fun j hj => ?_) (fun j hj => ?_) i hi
  · rw [show strAt (highL l) j = highS (strAt l j) from listS_get _ hj]; simp [highS, dn_same, dn]
  · rw [show strAt (highL l) j = highS (strAt l j) from listS_get _ hj]; simp [highS, up_same, up]
theorem low_ok {x : Str} (h : x.ok) : (lowS x).ok := by
  obtain ⟨h1, h2, h3, h4, h5⟩ := h
  simp only [sidedB, decide_eq_true_eq] at h1
  refine ⟨?_, h2, ?_, ?_, h5⟩
  · unfold sidedB; refine decide_eq_true ?_; simp only [lowS]
    rcases h1 with ⟨a, b, c⟩ | ⟨a, b, c, d⟩
    · exact .inl ⟨a, c, c⟩
    · exact .inr ⟨a, Int.le_refl _, by omega, d⟩
  · simp only [lowS]; omega
  · simp only [lowS]; omega
theorem high_ok {x : Str} (h : x.ok) : (highS x).ok := by
  obtain ⟨h1, h2, h3, h4, h5⟩ := h
  simp only [sidedB, decide_eq_true_eq] at h1
  refine ⟨?_, h2, ?_, ?_, h5⟩
  · unfold sidedB; refine decide_eq_true ?_; simp only [highS]
    rcases h1 with ⟨a, b, c⟩ | ⟨a, b, c, d⟩
    · exact .inl ⟨a, b, b⟩
    · exact .inr ⟨a, Int.le_refl _, c, by omega⟩
  · simp only [highS]; omega
  · simp only [highS]; omega
theorem low_valid {l : List Str} (hv : validL l) : validL (lowL l) := listS_valid hv fun j hj => ⟨low_ok (str_ok hv hj), rfl⟩
theorem high_valid {l : List Str} (hv : validL l) : validL (highL l) := listS_valid hv fun j hj => ⟨high_ok (str_ok hv hj), rfl⟩
theorem slow_ok {s : Sl} (h : s.ok) : (slowS s).ok := by simp only [Sl.ok, slowS] at h ⊢; omega
theorem fast_ok {s : Sl} (h : s.ok) : (fastS s).ok := by simp only [Sl.ok, fastS] at h ⊢; omega

theorem c_sHeadsS (H : Heap) (S : Nat → Str) (n id : Nat) (own ex : Bool) (s : Sl) (hh : H[id]? = some (.cells (avR (fun j => (S j).av) n) own)) (hv : validL (listS S n)) (hk : s.ok) :
    ACalls Try.prog F.slide_Heads [.agg [.slice id 0 n 9 ex], .agg s.av] H
      (fun v h' => v = .tuple [.slice H.length 0 (n + 1) 2 true, .int .i64 0] ∧ h' = H ++ [.cells (avR (r2 (hd false s (listS S n)) (hd true s (listS S n))) (n + 1)) true]) := by
  have := c_sHeads H (listS S n) id 0 ex s (by rw [listS_length, listS_av]; exact rd_full hh (lenS S n)) hv hk
  rw [listS_length] at this; exact this
theorem c_HeightS (H : Heap) (S : Nat → Str) (n id : Nat) (own ex : Bool) (s : Sl) (hh : H[id]? = some (.cells (avR (fun j => (S j).av) n) own)) (hv : validL (listS S n)) (hk : s.ok) (i : Nat) (hi : i < n) (hc : (S i).side ≠ 0) :
    ACalls Try.prog F.slide_Height [.agg [.slice id 0 n 9 ex], .agg s.av, .int .i64 i] H (fun v h' => v = .tuple [.agg [.int .i64 (htF (wiF (hd false s (listS S n)) i) (S i).rHi s.t1), .int .i64 (htF (wiF (hd true s (listS S n)) i) (S i).rLo s.t2)], .int .i64 0] ∧ h' = H) := by
  have := c_Height H (listS S n) id 0 ex s (by rw [listS_length, listS_av]; exact rd_full hh (lenS S n)) hv hk i (by rw [listS_length]; exact hi) (by rw [listS_get S hi]; exact hc)
  rw [listS_length, listS_get S hi] at this; exact this

set_option maxHeartbeats 4000000 in
theorem c_lawSE (H : Heap) (l : List Str) (s : Sl) (id off : Nat) (ex : Bool) (hs : rd H id off (l.length * 9) = some (l.flatMap Str.av)) (hc : 0 ≤ s.c ∧ s.c ≤ 255) :
    ACalls Try.prog F.law03_SlideEnds [.agg [.slice id off l.length 9 ex], .agg s.av] H (fun v _ => v = .bool true) := by
  have hid := rd_lt hs
  have ca : ∀ H, ACalls Try.prog F.law03_alive [] H (fun v h => v = .bool true ∧ h = H) := Try.true40
  have cr := fun H' h => c_sready H' l id off ex s h hc
  have ch := fun hv hk H' h => c_sHeads H' l id off ex s h hv hk
  have ce := fun H' h hn => c3_ends H' l s id off ex h hn
  have cl := fun H' id' h hv hk => c_sHeadsS H' (fun j => lowS (strAt l j)) l.length id' true false (slowS s) h hv hk
  have cu := fun H' id' h hv hk => c_sHeadsS H' (fun j => highS (strAt l j)) l.length id' true false (fastS s) h hv hk
  simp only [Sl.av] at cr ch ce cl cu ⊢
  refine acalls_of ok_law03_SlideEnds rfl fun hcl => ?_
  unfold ac_law03_SlideEnds
  simp only [argsT, Nat.zero_add, Nat.reduceAdd]
  repeat (first|(with_reducible first|apply X1|apply X2|apply X8)|((with_reducible apply e_end);(simp;exact Red.rfl))|((with_reducible apply O1);rfl;(simp (disch:=omega);exact Red.rfl);exact Red.rfl;(focus (first|(simp;done)|omega|(simp;omega)))))
  (with_reducible apply e_call); (simp; exact Red.rfl); exact ca _
  rintro _ _ ⟨rfl, rfl⟩
  repeat (first|(with_reducible first|apply X1|apply X2|apply X8)|((with_reducible apply e_end);(simp;exact Red.rfl))|((with_reducible apply O1);rfl;(simp (disch:=omega);exact Red.rfl);exact Red.rfl;(focus (first|(simp;done)|omega|(simp;omega)))))
  (with_reducible apply e_call); (simp; exact Red.rfl); exact cr _ (by rw [rd_old _ hid]; exact hs)
  rintro _ _ ⟨rfl, b, rfl, hbv⟩
  cases b with
  | false =>
    repeat (first|(with_reducible first|apply X1|apply X2|apply X3|apply X8|apply X9)|((with_reducible apply e_end);(simp;exact Red.rfl))|((with_reducible apply O1);rfl;(simp (disch:=omega);exact Red.rfl);exact Red.rfl;(focus (first|(simp;done)|omega|(simp;omega))))|((with_reducible apply Z9);(simp (disch:=omega);exact Red.rfl))|((with_reducible apply Z2);(simp (disch:=omega);exact Red.rfl)))
    refine q_drop (.inr rfl) (by simp; exact Red.rfl) (by simp) rfl
  | true =>
    obtain ⟨hv, hk⟩ := hbv.1 rfl
    have h12 := hv.1
    repeat (first|(with_reducible first|apply X1|apply X2|apply X5|apply X8)|((with_reducible apply e_end);(simp;exact Red.rfl))|((with_reducible apply O1);rfl;(simp (disch:=omega);exact Red.rfl);exact Red.rfl;(focus (first|(simp;done)|omega|(simp;omega))))|((with_reducible apply Z7);(simp (disch:=omega);exact Red.rfl))|((with_reducible apply W3);(simp (disch:=omega);exact Red.rfl)))
    (with_reducible apply e_call); (simp; exact Red.rfl); exact ce _ (by rw [rd_old _ hid]; exact hs) (by omega)
    rintro _ _ ⟨rfl, rfl⟩
    have e3 : H.length + 2 + 1 = H.length + 3 := rfl
    repeat (first|(with_reducible first|apply X1|apply X2|apply X8)|((with_reducible apply e_end);(simp;exact Red.rfl))|((first|((with_reducible apply O1);rfl)|((with_reducible apply O2);rfl));(simp (disch:=omega) [e3];exact Red.rfl);exact Red.rfl;(focus (first|(simp;done)|omega|(simp;omega)))))
    (with_reducible apply e_call); (simp; exact Red.rfl); exact ch hv hk _ (by simp only [List.append_assoc, rd_old _ hid]; exact hs)
    rintro _ _ ⟨rfl, rfl⟩
    repeat (first|(with_reducible first|apply X1|apply X2|apply X8)|((with_reducible apply e_end);(simp;exact Red.rfl))|((with_reducible apply O1);rfl;(simp (disch:=omega);exact Red.rfl);exact Red.rfl;(focus (first|(simp;done)|omega|(simp;omega)))))
    (with_reducible apply e_call); (simp; exact Red.rfl); exact cl _ _ (by rw [at_new]; rfl) (low_valid hv) (slow_ok hk)
    rintro _ _ ⟨rfl, rfl⟩
    repeat (first|(with_reducible first|apply X1|apply X2|apply X8)|((with_reducible apply e_end);(simp;exact Red.rfl))|((with_reducible apply O1);rfl;(simp (disch:=omega);exact Red.rfl);exact Red.rfl;(focus (first|(simp;done)|omega|(simp;omega)))))
    (with_reducible apply e_call); (simp; exact Red.rfl); exact cu _ _ (by rw [at_new]; rfl) (high_valid hv) (fast_ok hk)
    rintro _ _ ⟨rfl, rfl⟩
    repeat (first|(with_reducible first|apply X1|apply X2|apply X5|apply X6|apply X8)|((with_reducible apply e_end);(simp;exact Red.rfl))|((with_reducible apply O1);rfl;(simp (disch:=omega);exact Red.rfl);exact Red.rfl;(focus (first|(simp;done)|omega|(simp;omega))))|((with_reducible apply Z7);(simp (disch:=omega);exact Red.rfl))|((with_reducible apply W3);(simp (disch:=omega);exact Red.rfl)))
    have plR := (plain_r2 (hd false s l) (hd true s l)).plain (l.length + 1)
    have plA := (plain_r2 (hd false (slowS s) (listS (fun j => lowS (strAt l j)) l.length)) (hd true (slowS s) (listS (fun j => lowS (strAt l j)) l.length))).plain (l.length + 1)
    have plB := (plain_r2 (hd false (fastS s) (listS (fun j => highS (strAt l j)) l.length)) (hd true (fastS s) (listS (fun j => highS (strAt l j)) l.length))).plain (l.length + 1)
    have plC := (plain_fun (fun j => lowS (strAt l j))).plain l.length
    have plD := (plain_fun (fun j => highS (strAt l j))).plain l.length
    have lR := (plain_r2 (hd false s l) (hd true s l)).length (l.length + 1)
    have lA := (plain_r2 (hd false (slowS s) (listS (fun j => lowS (strAt l j)) l.length)) (hd true (slowS s) (listS (fun j => lowS (strAt l j)) l.length))).length (l.length + 1)
    have lB := (plain_r2 (hd false (fastS s) (listS (fun j => highS (strAt l j)) l.length)) (hd true (fastS s) (listS (fun j => highS (strAt l j)) l.length))).length (l.length + 1)
    refine e_loop (ι := { i : Nat // i ≤ l.length + 1 })
      (fun i => [(2, .ptr H.length 0), (3, .ptr (H.length + 1) 0), (5, .bool true), (6, .ptr (H.length + 4) 0), (7, .ptr (H.length + 5) 0), (8, .ptr (H.length + 6) 0), (9, .ptr (H.length + 7) 0), (10, .slice (H.length + 8) 0 (l.length + 1) 2 true), (12, .slice (H.length + 9) 0 (l.length + 1) 2 true), (14, .slice (H.length + 10) 0 (l.length + 1) 2 true), (95, .int .i64 ((l.length : Int) + 1)), (96, .int .i64 i.1)])
      (fun _ => H ++ [.cells [.slice id off l.length 9 ex] true, .cells [.int .u8 s.c, .int .i64 s.s1, .int .i64 s.s2, .int .i64 s.r1, .int .i64 s.r2, .int .i64 s.d1, .int .i64 s.d2, .int .i64 s.w1, .int .i64 s.w2, .int .i64 s.t1, .int .i64 s.t2] true, .cells (avR (fun j => (lowS (strAt l j)).av) l.length) true, .cells (avR (fun j => (highS (strAt l j)).av) l.length) true, .cells [.slice (H.length + 2) 0 l.length 9 false] true, .cells [.slice (H.length + 3) 0 l.length 9 false] true, .cells [.int .u8 (slowS s).c, .int .i64 (slowS s).s1, .int .i64 (slowS s).s2, .int .i64 (slowS s).r1, .int .i64 (slowS s).r2, .int .i64 (slowS s).d1, .int .i64 (slowS s).d2, .int .i64 (slowS s).w1, .int .i64 (slowS s).w2, .int .i64 (slowS s).t1, .int .i64 (slowS s).t2] true, .cells [.int .u8 (fastS s).c, .int .i64 (fastS s).s1, .int .i64 (fastS s).s2, .int .i64 (fastS s).r1, .int .i64 (fastS s).r2, .int .i64 (fastS s).d1, .int .i64 (fastS s).d2, .int .i64 (fastS s).w1, .int .i64 (fastS s).w2, .int .i64 (fastS s).t1, .int .i64 (fastS s).t2] true, .cells (avR (r2 (hd false s l) (hd true s l)) (l.length + 1)) true, .cells (avR (r2 (hd false (slowS s) (listS (fun j => lowS (strAt l j)) l.length)) (hd true (slowS s) (listS (fun j => lowS (strAt l j)) l.length))) (l.length + 1)) true, .cells (avR (r2 (hd false (fastS s) (listS (fun j => highS (strAt l j)) l.length)) (hd true (fastS s) (listS (fun j => highS (strAt l j)) l.length))) (l.length + 1)) true]) (fun i => l.length + 1 - i.1) ⟨0, by simp⟩ ?_ ?_
    · exact .inl rfl
    · rintro ⟨i, hi⟩
      dsimp only
      by_cases hlt : i < l.length + 1
      · have hlt2 : (i : Int) < (l.length : Int) + 1 := by omega
        have le2 : i * 2 + 2 ≤ (l.length + 1) * 2 := by omega
        have le1 : i * 2 + 1 ≤ (l.length + 1) * 2 := by omega
        have le3 : i * 2 + 1 + 1 ≤ (l.length + 1) * 2 := by omega
        have rR0 := (plain_r2 (hd false s l) (hd true s l)).part (n := l.length + 1) (i := i) (c := 0) (m := 1) hlt (by omega)
        have rR1 := (plain_r2 (hd false s l) (hd true s l)).part (n := l.length + 1) (i := i) (c := 1) (m := 1) hlt (by omega)
        have rA := (plain_r2 (hd false (slowS s) (listS (fun j => lowS (strAt l j)) l.length)) (hd true (slowS s) (listS (fun j => lowS (strAt l j)) l.length))).part (n := l.length + 1) (i := i) (c := 0) (m := 2) hlt (by omega)
        have rB := (plain_r2 (hd false (fastS s) (listS (fun j => highS (strAt l j)) l.length)) (hd true (fastS s) (listS (fun j => highS (strAt l j)) l.length))).part (n := l.length + 1) (i := i) (c := 0) (m := 2) hlt (by omega)
        simp only [r2, List.drop_zero, List.take_succ_cons, List.take_zero, Nat.add_zero, List.drop_succ_cons] at rR0 rR1 rA rB
        rw [show hd false (slowS s) (listS (fun j => lowS (strAt l j)) l.length) i = hd false s l i from hd_low _ _ _ (by omega), show hd true (slowS s) (listS (fun j => lowS (strAt l j)) l.length) i = hd false s l i from hd_low _ _ _ (by omega)] at rA
        rw [show hd false (fastS s) (listS (fun j => highS (strAt l j)) l.length) i = hd true s l i from hd_high _ _ _ (by omega), show hd true (fastS s) (listS (fun j => highS (strAt l j)) l.length) i = hd true s l i from hd_high _ _ _ (by omega)] at rB
        repeat (first|(with_reducible first|apply X1|apply X2|apply X5|apply X6|apply X8|apply Y9)|((with_reducible apply e_end);(simp;exact Red.rfl))|((first|((with_reducible apply O1);rfl)|((with_reducible apply P1);rfl)|((with_reducible apply P2);rfl));(simp (disch:=omega) [hlt, hlt2, le1, le2, le3, rR0, rR1, rA, rB, lR, lA, lB];exact Red.rfl);exact Red.rfl;(focus (first|(simp;done)|omega|(simp;omega))))|((with_reducible apply Z9);(simp (disch:=omega) [hlt, hlt2, le1, le2, le3, rR0, rR1, rA, rB, lR, lA, lB];exact Red.rfl)))
        (with_reducible apply d_call); (simp; exact Red.rfl); exact c3_span _ _ _; (focus (first | (simp; done) | (simp; omega)))
        repeat (first|((first|((with_reducible apply P1);rfl)|((with_reducible apply P2);rfl));(simp (disch:=omega) [hlt, hlt2, le1, le2, le3, rR0, rR1, rA, rB, lR, lA, lB];exact Red.rfl);exact Red.rfl;(focus (first|(simp;done)|omega|(simp;omega))))|((with_reducible apply Z8);(simp (disch:=omega) [hlt, hlt2, le1, le2, le3, rR0, rR1, rA, rB, lR, lA, lB];exact Red.rfl)))
        (with_reducible apply d_call); (simp; exact Red.rfl); exact c3_span _ _ _; (focus (first | (simp; done) | (simp; omega)))
        repeat (first|(with_reducible first|apply X2|apply X5|apply X8|apply Y2)|((with_reducible first|apply e_end|apply d_end);(simp;exact Red.rfl))|((first|((with_reducible apply O1);rfl)|((with_reducible apply P1);rfl));(simp (disch:=omega) [hlt, hlt2, le1, le2, le3, rR0, rR1, rA, rB, lR, lA, lB];exact Red.rfl);exact Red.rfl;(focus (first|(simp;done)|omega|(simp;omega))))|((with_reducible apply Z8);(simp (disch:=omega) [hlt, hlt2, le1, le2, le3, rR0, rR1, rA, rB, lR, lA, lB];exact Red.rfl))|((with_reducible apply W3);(simp (disch:=omega) [hlt, hlt2, le1, le2, le3, rR0, rR1, rA, rB, lR, lA, lB];exact Red.rfl)))
        exact q_again ⟨i + 1, by omega⟩ (by dsimp only; omega) (.inl rfl)
      · obtain rfl : i = l.length + 1 := by omega
        repeat (first|(with_reducible first|apply X1|apply X2|apply X4|apply X6|apply X8|apply Y1|apply Y4|apply Y6)|((with_reducible apply e_end);(simp;exact Red.rfl))|((with_reducible apply O1);rfl;(simp (disch:=omega);exact Red.rfl);exact Red.rfl;(focus (first|(simp;done)|omega|(simp;omega))))|((with_reducible apply W3);(simp (disch:=omega);exact Red.rfl)))
        clear hi hlt
        have chc := fun i hi hc' H' h => c_Height H' l id off ex s h hv hk i hi hc'
        simp only [Sl.av] at chc
        refine e_loop (ι := { i : Nat // i ≤ l.length })
          (fun i => [(2, .ptr H.length 0), (3, .ptr (H.length + 1) 0), (5, .bool true), (6, .ptr (H.length + 4) 0), (7, .ptr (H.length + 5) 0), (8, .ptr (H.length + 6) 0), (9, .ptr (H.length + 7) 0), (135, .slice id off l.length 9 ex), (136, .int .i64 l.length), (137, .int .i64 i.1)])
          (fun _ => H ++ [.cells [.slice id off l.length 9 ex] true, .cells [.int .u8 s.c, .int .i64 s.s1, .int .i64 s.s2, .int .i64 s.r1, .int .i64 s.r2, .int .i64 s.d1, .int .i64 s.d2, .int .i64 s.w1, .int .i64 s.w2, .int .i64 s.t1, .int .i64 s.t2] true, .cells (avR (fun j => (lowS (strAt l j)).av) l.length) true, .cells (avR (fun j => (highS (strAt l j)).av) l.length) true, .cells [.slice (H.length + 2) 0 l.length 9 false] true, .cells [.slice (H.length + 3) 0 l.length 9 false] true, .cells [.int .u8 (slowS s).c, .int .i64 (slowS s).s1, .int .i64 (slowS s).s2, .int .i64 (slowS s).r1, .int .i64 (slowS s).r2, .int .i64 (slowS s).d1, .int .i64 (slowS s).d2, .int .i64 (slowS s).w1, .int .i64 (slowS s).w2, .int .i64 (slowS s).t1, .int .i64 (slowS s).t2] true, .cells [.int .u8 (fastS s).c, .int .i64 (fastS s).s1, .int .i64 (fastS s).s2, .int .i64 (fastS s).r1, .int .i64 (fastS s).r2, .int .i64 (fastS s).d1, .int .i64 (fastS s).d2, .int .i64 (fastS s).w1, .int .i64 (fastS s).w2, .int .i64 (fastS s).t1, .int .i64 (fastS s).t2] true, .cells (avR (r2 (hd false s l) (hd true s l)) (l.length + 1)) true, .cells (avR (r2 (hd false (slowS s) (listS (fun j => lowS (strAt l j)) l.length)) (hd true (slowS s) (listS (fun j => lowS (strAt l j)) l.length))) (l.length + 1)) true, .cells (avR (r2 (hd false (fastS s) (listS (fun j => highS (strAt l j)) l.length)) (hd true (fastS s) (listS (fun j => highS (strAt l j)) l.length))) (l.length + 1)) true]) (fun i => l.length - i.1) ⟨0, by simp⟩ ?_ ?_
        · exact .inl rfl
        · rintro ⟨i, hi⟩
          dsimp only
          by_cases hlt : i < l.length
          · have hlt2 : (i : Int) < l.length := by omega
            have hx := rd_row Str.av_length hs hlt
            have hst := strAt_eq hlt
            have chc := chc i hlt
            have w1 : ∀ t, wiF (hd t (slowS s) (listS (fun j => lowS (strAt l j)) l.length)) i = wiF (hd false s l) i := fun t => by
              unfold wiF; rw [show hd t (slowS s) (listS (fun j => lowS (strAt l j)) l.length) i = _ from hd_low t s l (by omega), show hd t (slowS s) (listS (fun j => lowS (strAt l j)) l.length) (i + 1) = _ from hd_low t s l (by omega)]
            have w2 : ∀ t, wiF (hd t (fastS s) (listS (fun j => highS (strAt l j)) l.length)) i = wiF (hd true s l) i := fun t => by
              unfold wiF; rw [show hd t (fastS s) (listS (fun j => highS (strAt l j)) l.length) i = _ from hd_high t s l (by omega), show hd t (fastS s) (listS (fun j => highS (strAt l j)) l.length) (i + 1) = _ from hd_high t s l (by omega)]
            have cl : (strAt l i).side ≠ 0 → ∀ H' id' (hh : H'[id']? = some (.cells (avR (fun j => (lowS (strAt l j)).av) l.length) true)), ACalls Try.prog F.slide_Height [.agg [.slice id' 0 l.length 9 false], .agg (slowS s).av, .int .i64 i] H'
                (fun v h' => v = .tuple [.agg [.int .i64 (htF (wiF (hd false s l) i) (strAt l i).rHi s.t1), .int .i64 (htF (wiF (hd false s l) i) (strAt l i).rHi s.t1)], .int .i64 0] ∧ h' = H') := by
              intro hc' H' id' hh
              have := c_HeightS H' (fun j => lowS (strAt l j)) l.length id' true false (slowS s) hh (low_valid hv) (slow_ok hk) i hlt hc'
              rw [w1, w1] at this; exact this
            have cu : (strAt l i).side ≠ 0 → ∀ H' id' (hh : H'[id']? = some (.cells (avR (fun j => (highS (strAt l j)).av) l.length) true)), ACalls Try.prog F.slide_Height [.agg [.slice id' 0 l.length 9 false], .agg (fastS s).av, .int .i64 i] H'
                (fun v h' => v = .tuple [.agg [.int .i64 (htF (wiF (hd true s l) i) (strAt l i).rLo s.t2), .int .i64 (htF (wiF (hd true s l) i) (strAt l i).rLo s.t2)], .int .i64 0] ∧ h' = H') := by
              intro hc' H' id' hh
              have := c_HeightS H' (fun j => highS (strAt l j)) l.length id' true false (fastS s) hh (high_valid hv) (fast_ok hk) i hlt hc'
              rw [w2, w2] at this; exact this
            clear w1 w2
            rw [hst] at chc cl cu
            generalize hsi : l[i] = st at hx chc cl cu
            obtain ⟨a1, a2, a3, a4, a5, a6, a7, a8, a9⟩ := st
            simp only [Str.av] at hx
            dsimp only at chc cl cu
            simp only [Sl.av] at cl cu
            generalize htF (wiF (hd false s l) i) a7 s.t1 = A at chc cl
            generalize htF (wiF (hd true s l) i) a6 s.t2 = B at chc cu
            repeat (first|(with_reducible first|apply X1|apply X2|apply X5|apply X6|apply X8)|((with_reducible apply e_end);(simp;exact Red.rfl))|((first|((with_reducible apply O1);rfl)|((with_reducible apply O2);rfl));(simp (disch:=omega) [hlt, hlt2, rd_old _ hid, hx];exact Red.rfl);exact Red.rfl;(focus (first|(simp;done)|omega|(simp;omega))))|((with_reducible apply Z9);(simp (disch:=omega) [hlt, hlt2, rd_old _ hid, hx];exact Red.rfl)))
            by_cases hside : a8 = 0
            · repeat (first|(with_reducible first|apply X2|apply X4|apply X8|apply Y1|apply Y4)|((with_reducible apply e_end);(simp;exact Red.rfl))|((with_reducible apply O1);rfl;(simp (disch:=omega) [hside];exact Red.rfl);exact Red.rfl;(focus (first|(simp;done)|omega|(simp;omega))))|((with_reducible apply Z9);(simp (disch:=omega) [hside];exact Red.rfl)))
              refine q_again ⟨i + 1, by omega⟩ (by dsimp only; omega) (.inr ?_)
              exact le_take (G := [_, _, _, _, _, _, _, _, _, _, _]) (G2 := [_]) (by simp [plR.sc, plA.sc, plB.sc, plC.sc, plD.sc] <;> omega) (by simp [Red, hid] <;> omega)
            · repeat (first|(with_reducible first|apply X1|apply X2|apply X5|apply X8)|((with_reducible apply O1);rfl;(simp (disch:=omega) [hside];exact Red.rfl);exact Red.rfl;(focus (first|(simp;done)|omega|(simp;omega))))|((with_reducible apply W3);(simp (disch:=omega) [hside];exact Red.rfl)))
              (with_reducible apply e_call); (simp; exact Red.rfl); exact chc hside _ (by simp only [List.append_assoc, rd_old _ hid]; exact hs)
              rintro _ _ ⟨rfl, rfl⟩
              repeat (first|(with_reducible first|apply X1|apply X2|apply X8)|((with_reducible apply e_end);(simp;exact Red.rfl))|((first|((with_reducible apply O1);rfl)|((with_reducible apply O2);rfl));(simp (disch:=omega);exact Red.rfl);exact Red.rfl;(focus (first|(simp;done)|omega|(simp;omega)))))
              (with_reducible apply e_call); (simp; exact Red.rfl); exact cl hside _ _ (by rw [at_new]; rfl)
              rintro _ _ ⟨rfl, rfl⟩
              repeat (first|(with_reducible first|apply X1|apply X2|apply X8)|((with_reducible apply e_end);(simp;exact Red.rfl))|((first|((with_reducible apply O1);rfl)|((with_reducible apply O2);rfl));(simp (disch:=omega);exact Red.rfl);exact Red.rfl;(focus (first|(simp;done)|omega|(simp;omega)))))
              (with_reducible apply e_call); (simp; exact Red.rfl); exact cu hside _ _ (by rw [at_new]; rfl)
              rintro _ _ ⟨rfl, rfl⟩
              repeat (first|(with_reducible first|apply X1|apply X8|apply Y9)|((with_reducible apply e_end);(simp;exact Red.rfl))|((first|((with_reducible apply O1);rfl)|((with_reducible apply O2);rfl)|((with_reducible apply P1);rfl)|((with_reducible apply P2);rfl));(simp (disch:=omega);exact Red.rfl);exact Red.rfl;(focus (first|(simp;done)|omega|(simp;omega))))|((with_reducible apply Z8);(simp (disch:=omega);exact Red.rfl)))
              (with_reducible apply d_call); (simp; exact Red.rfl); exact c3_span _ _ _; (focus (first | (simp; done) | (simp; omega)))
              repeat (first|((first|((with_reducible apply P1);rfl)|((with_reducible apply P2);rfl));(simp (disch:=omega);exact Red.rfl);exact Red.rfl;(focus (first|(simp;done)|omega|(simp;omega))))|((with_reducible apply Z8);(simp (disch:=omega);exact Red.rfl)))
              (with_reducible apply d_call); (simp; exact Red.rfl); exact c3_span _ _ _; (focus (first | (simp; done) | (simp; omega)))
              repeat (first|(with_reducible first|apply X2|apply X5|apply X8|apply Y2)|((with_reducible first|apply e_end|apply d_end);(simp;exact Red.rfl))|((first|((with_reducible apply O1);rfl)|((with_reducible apply P1);rfl));(simp (disch:=omega);exact Red.rfl);exact Red.rfl;(focus (first|(simp;done)|omega|(simp;omega))))|((with_reducible apply Z8);(simp (disch:=omega);exact Red.rfl))|((with_reducible apply W3);(simp (disch:=omega);exact Red.rfl)))
              refine q_again ⟨i + 1, by omega⟩ (by dsimp only; omega) (.inr ?_)
              exact le_take (G := [_, _, _, _, _, _, _, _, _, _, _]) (G2 := [_, _, _, _]) (by simp [plR.sc, plA.sc, plB.sc, plC.sc, plD.sc] <;> omega) (by simp [Red, hid] <;> omega)
          · obtain rfl : i = l.length := by omega
            repeat (first|(with_reducible first|apply X1|apply X2|apply X3|apply X4|apply X8|apply Y1|apply Y4|apply Y6)|((with_reducible apply e_end);(simp;exact Red.rfl))|((with_reducible apply O1);rfl;(simp (disch:=omega);exact Red.rfl);exact Red.rfl;(focus (first|(simp;done)|omega|(simp;omega))))|((with_reducible apply W3);(simp (disch:=omega);exact Red.rfl)))
            refine q_drop (.inr rfl) (by simp; exact Red.rfl) (by simp) rfl
end Go.Proofs
