/- Measures of the reference; one measure more. -/
import Derived.Test.YthhhmbkbfpcojaaGH
namespace Go.Proofs
open Go.Abs
attribute [local simp] AOp.den AOpd.ev lk cellsOf rd_new rd_new0 rd_zero rd_succ wr_new wr_new0 wr_zero wr_succ splice fillA binA scal sliceCells List.length_append argsT AV.sc scL AObj.sc resV getAll AR.get AOp.slots opdSlots opdsSlots partSlots eqAt at_new0 at_new set_new0 set_new wrap64
set_option linter.unusedSimpArgs false
set_option linter.unusedVariables false
theorem c_rMeasures (H : Heap) (n id off : Nat) (ex : Bool) (ms : List Ms) (mid moff : Nat) (mex : Bool) (hid : id < H.length) (hm : rd H mid moff (ms.length * 5) = some (ms.flatMap Ms.av)) (hn : (ms.length : Int) ≤ 9223372036854775807) (hk : ∀ i (h : i < ms.length), 0 ≤ ms[i].k ∧ ms[i].k ≤ 255) :
    ACalls Try.prog F.ref01_Measures [.agg [.slice id off n 9 ex], .slice mid moff ms.length 5 mex] H (fun v h' => h' = H ∧ ∃ b : Bool, v = .bool b ∧ (b = true ↔ okMs n ms)) := by
  refine acalls_of ok_ref01_Measures rfl fun hcl => ?_
  unfold ac_ref01_Measures
  simp only [argsT, Nat.zero_add, Nat.reduceAdd]
  have hmid := rd_lt hm
  by_cases hml : ms.length ≤ 12
  rotate_left
  · have hml2 : (12 : Int) < ms.length := by omega
    repeat (first
     |(with_reducible first|apply X1|apply X2|apply X3|apply X4|apply X5|apply X6|apply X7|apply X8|apply X9|apply Y1|apply Y2|apply Y3|apply Y4|apply Y5|apply Y6|apply Y7|apply Y8|apply Y9)
     |((with_reducible apply q_block_other);decide)
     |((with_reducible first|apply e_end|apply d_end);(simp;exact Red.rfl))
     |((first|((with_reducible apply O1);rfl)|((with_reducible apply O2);rfl)|((with_reducible apply P1);rfl)|((with_reducible apply P2);rfl)|((with_reducible apply P3);rfl)|((with_reducible apply P4);rfl)|((with_reducible apply P5);rfl));(simp (disch:=omega) [hml2];exact Red.rfl);exact Red.rfl;(focus (first|(simp;done)|omega|(simp;omega))))
     |((with_reducible first|apply Z7|apply Z8|apply Z9);(simp (disch:=omega) [hml2];exact Red.rfl))
     |((with_reducible first|apply Z1|apply Z2|apply Z3|apply Z4|apply Z5|apply Z6);(simp (disch:=omega) [hml2];exact Red.rfl))
     |((with_reducible first|apply W1|apply W2|apply W3);(simp (disch:=omega) [hml2];exact Red.rfl))
     |((with_reducible apply P6);rfl;(simp (disch:=omega) [hml2];exact Red.rfl);exact Red.rfl;(focus (first|(simp [pr];done)|(simp [pr];omega))))
     |((with_reducible apply P7);rfl;(simp (disch:=omega) [hml2];exact Red.rfl);exact Red.rfl;(focus (simp [repast, pr, AOp.sem];done))))
    refine q_drop (.inr rfl) (by simp; exact Red.rfl) (by simp) ⟨rfl, false, rfl, by simp only [okMs]; constructor <;> intro h; cases h; exact absurd h.1 hml⟩
  have hml2 : ¬ (12 : Int) < ms.length := by omega
  repeat (first
   |(with_reducible first|apply X1|apply X2|apply X3|apply X4|apply X5|apply X6|apply X7|apply X8|apply X9|apply Y1|apply Y2|apply Y3|apply Y4|apply Y5|apply Y6|apply Y7|apply Y8|apply Y9)
   |((with_reducible apply q_block_other);decide)
   |((with_reducible first|apply e_end|apply d_end);(simp;exact Red.rfl))
   |((first|((with_reducible apply O1);rfl)|((with_reducible apply O2);rfl)|((with_reducible apply P1);rfl)|((with_reducible apply P2);rfl)|((with_reducible apply P3);rfl)|((with_reducible apply P4);rfl)|((with_reducible apply P5);rfl));(simp (disch:=omega) [hml2];exact Red.rfl);exact Red.rfl;(focus (first|(simp;done)|omega|(simp;omega))))
   |((with_reducible first|apply Z7|apply Z8|apply Z9);(simp (disch:=omega) [hml2];exact Red.rfl))
   |((with_reducible first|apply Z1|apply Z2|apply Z3|apply Z4|apply Z5|apply Z6);(simp (disch:=omega) [hml2];exact Red.rfl))
   |((with_reducible first|apply W1|apply W2|apply W3);(simp (disch:=omega) [hml2];exact Red.rfl))
   |((with_reducible apply P6);rfl;(simp (disch:=omega) [hml2];exact Red.rfl);exact Red.rfl;(focus (first|(simp [pr];done)|(simp [pr];omega))))
   |((with_reducible apply P7);rfl;(simp (disch:=omega) [hml2];exact Red.rfl);exact Red.rfl;(focus (simp [repast, pr, AOp.sem];done))))
  refine e_loop (ι := { i : Nat // i ≤ ms.length ∧ ∀ j (h : j < ms.length), j < i → ms[j].ok n })
    (fun i => [(1, .slice mid moff ms.length 5 mex), (2, .ptr H.length 0), (5, .int .i64 i.1)])
    (fun i => H ++ [.cells [.slice id off n 9 ex] true]) (fun i => ms.length - i.1) ⟨0, by omega, by omega⟩ ?_ ?_
  · exact .inr <| le_same (by simp; omega) (by simp [Red]; omega)
  rintro ⟨i, hi, hok⟩
  dsimp only
  by_cases hlt : i < ms.length
  rotate_left
  · have hlt2 : ¬ (i : Int) < ms.length := by omega
    repeat (first
     |(with_reducible first|apply X1|apply X2|apply X3|apply X4|apply X5|apply X6|apply X7|apply X8|apply X9|apply Y1|apply Y2|apply Y3|apply Y4|apply Y5|apply Y6|apply Y7|apply Y8|apply Y9)
     |((with_reducible apply q_block_other);decide)
     |((with_reducible first|apply e_end|apply d_end);(simp;exact Red.rfl))
     |((first|((with_reducible apply O1);rfl)|((with_reducible apply O2);rfl)|((with_reducible apply P1);rfl)|((with_reducible apply P2);rfl)|((with_reducible apply P3);rfl)|((with_reducible apply P4);rfl)|((with_reducible apply P5);rfl));(simp (disch:=omega) [hlt2];exact Red.rfl);exact Red.rfl;(focus (first|(simp;done)|omega|(simp;omega))))
     |((with_reducible first|apply Z7|apply Z8|apply Z9);(simp (disch:=omega) [hlt2];exact Red.rfl))
     |((with_reducible first|apply Z1|apply Z2|apply Z3|apply Z4|apply Z5|apply Z6);(simp (disch:=omega) [hlt2];exact Red.rfl))
     |((with_reducible first|apply W1|apply W2|apply W3);(simp (disch:=omega) [hlt2];exact Red.rfl))
     |((with_reducible apply P6);rfl;(simp (disch:=omega) [hlt2];exact Red.rfl);exact Red.rfl;(focus (first|(simp [pr];done)|(simp [pr];omega))))
     |((with_reducible apply P7);rfl;(simp (disch:=omega) [hlt2];exact Red.rfl);exact Red.rfl;(focus (simp [repast, pr, AOp.sem];done))))
    refine q_drop (.inr rfl) (by simp; exact Red.rfl) (by simp) ⟨rfl, true, rfl, by simp only [true_iff]; exact ⟨hml, fun j hj => hok j hj (by omega)⟩⟩
  have hlt2 : (i : Int) < ms.length := by omega
  have hx := rd_row Ms.av_length hm hlt
  have hall : okMs n ms → ms[i].ok n := fun h => h.2 i hlt
  have hki := hk i hlt
  generalize hmi : ms[i] = m at hx hall hki
  obtain ⟨k, f, t, lo, hi2⟩ := m
  simp only [Ms.av] at hx
  simp only [Ms.ok] at hall
  dsimp only at hki
  have x0 : rd H mid (moff + i * 5) 1 = some [.int .u8 k] := by simpa using rd_sub hx (show 0 + 1 ≤ 5 by omega)
  have x1 : rd H mid (moff + i * 5 + 1) 1 = some [.int .i64 f] := by simpa using rd_sub hx (show 1 + 1 ≤ 5 by omega)
  have x2 : rd H mid (moff + i * 5 + 2) 1 = some [.int .i64 t] := by simpa using rd_sub hx (show 2 + 1 ≤ 5 by omega)
  have x3 : rd H mid (moff + i * 5 + 3) 2 = some [.int .i64 lo, .int .i64 hi2] := by simpa using rd_sub hx (show 3 + 2 ≤ 5 by omega)
  have hw : IntKind.i64.wrap k = k := by rw [wrap64] <;> omega
  obtain ⟨b1, hb1⟩ := bof (1 ≤ k ∧ k ≤ 2)
  obtain ⟨b2, hb2⟩ := bof (0 ≤ f ∧ f ≤ n)
  obtain ⟨b3, hb3⟩ := bof (0 ≤ t ∧ t ≤ n)
  obtain ⟨b4, hb4⟩ := bof (lo ≤ hi2 ∧ 0 ≤ lo ∧ hi2 ≤ 360000)
  repeat (first
   |(with_reducible first|apply X1|apply X2|apply X3|apply X4|apply X5|apply X6|apply X7|apply X8|apply X9|apply Y1|apply Y2|apply Y3|apply Y4|apply Y5|apply Y6|apply Y7|apply Y8|apply Y9)
   |((with_reducible apply q_block_other);decide)
   |((with_reducible first|apply e_end|apply d_end);(simp;exact Red.rfl))
   |((first|((with_reducible apply O1);rfl)|((with_reducible apply O2);rfl)|((with_reducible apply P1);rfl)|((with_reducible apply P2);rfl)|((with_reducible apply P3);rfl)|((with_reducible apply P4);rfl)|((with_reducible apply P5);rfl));(simp (disch:=omega) [hlt2, hlt, rd_old _ hmid, x0, hw];exact Red.rfl);exact Red.rfl;(focus (first|(simp;done)|omega|(simp;omega))))
   |((with_reducible first|apply Z7|apply Z8|apply Z9);(simp (disch:=omega) [hlt2, hlt, rd_old _ hmid, x0, hw];exact Red.rfl))
   |((with_reducible first|apply Z1|apply Z2|apply Z3|apply Z4|apply Z5|apply Z6);(simp (disch:=omega) [hlt2, hlt, rd_old _ hmid, x0, hw];exact Red.rfl))
   |((with_reducible first|apply W1|apply W2|apply W3);(simp (disch:=omega) [hlt2, hlt, rd_old _ hmid, x0, hw];exact Red.rfl))
   |((with_reducible apply P6);rfl;(simp (disch:=omega) [hlt2, hlt, rd_old _ hmid, x0, hw];exact Red.rfl);exact Red.rfl;(focus (first|(simp [pr];done)|(simp [pr];omega))))
   |((with_reducible apply P7);rfl;(simp (disch:=omega) [hlt2, hlt, rd_old _ hmid, x0, hw];exact Red.rfl);exact Red.rfl;(focus (simp [repast, pr, AOp.sem];done))))
  (with_reducible apply d_call); (simp; exact Red.rfl); exact c_rwithin' _ _ _ _ hb1; (focus (first | (simp; done) | (simp; omega)))
  cases b1 with
  | false =>
    repeat (first
     |(with_reducible first|apply X1|apply X2|apply X3|apply X4|apply X5|apply X6|apply X7|apply X8|apply X9|apply Y1|apply Y2|apply Y3|apply Y4|apply Y5|apply Y6|apply Y7|apply Y8|apply Y9)
     |((with_reducible apply q_block_other);decide)
     |((with_reducible first|apply e_end|apply d_end);(simp;exact Red.rfl))
     |((first|((with_reducible apply O1);rfl)|((with_reducible apply O2);rfl)|((with_reducible apply P1);rfl)|((with_reducible apply P2);rfl)|((with_reducible apply P3);rfl)|((with_reducible apply P4);rfl)|((with_reducible apply P5);rfl));(simp (disch:=omega);exact Red.rfl);exact Red.rfl;(focus (first|(simp;done)|omega|(simp;omega))))
     |((with_reducible first|apply Z7|apply Z8|apply Z9);(simp (disch:=omega);exact Red.rfl))
     |((with_reducible first|apply Z1|apply Z2|apply Z3|apply Z4|apply Z5|apply Z6);(simp (disch:=omega);exact Red.rfl))
     |((with_reducible first|apply W1|apply W2|apply W3);(simp (disch:=omega);exact Red.rfl))
     |((with_reducible apply P6);rfl;(simp (disch:=omega);exact Red.rfl);exact Red.rfl;(focus (first|(simp [pr];done)|(simp [pr];omega))))
     |((with_reducible apply P7);rfl;(simp (disch:=omega);exact Red.rfl);exact Red.rfl;(focus (simp [repast, pr, AOp.sem];done))))
    refine q_drop (.inr rfl) (by simp; exact Red.rfl) (by simp) ⟨rfl, false, rfl, by simp at hb1; constructor <;> intro h; cases h; have := hall h; omega⟩
  | true =>
    repeat (first
     |(with_reducible first|apply X1|apply X2|apply X3|apply X4|apply X5|apply X6|apply X7|apply X8|apply X9|apply Y1|apply Y2|apply Y3|apply Y4|apply Y5|apply Y6|apply Y7|apply Y8|apply Y9)
     |((with_reducible apply q_block_other);decide)
     |((with_reducible first|apply e_end|apply d_end);(simp;exact Red.rfl))
     |((first|((with_reducible apply O1);rfl)|((with_reducible apply O2);rfl)|((with_reducible apply P1);rfl)|((with_reducible apply P2);rfl)|((with_reducible apply P3);rfl)|((with_reducible apply P4);rfl)|((with_reducible apply P5);rfl));(simp (disch:=omega) [hlt2, hlt, rd_old _ hmid, x1];exact Red.rfl);exact Red.rfl;(focus (first|(simp;done)|omega|(simp;omega))))
     |((with_reducible first|apply Z7|apply Z8|apply Z9);(simp (disch:=omega) [hlt2, hlt, rd_old _ hmid, x1];exact Red.rfl))
     |((with_reducible first|apply Z1|apply Z2|apply Z3|apply Z4|apply Z5|apply Z6);(simp (disch:=omega) [hlt2, hlt, rd_old _ hmid, x1];exact Red.rfl))
     |((with_reducible first|apply W1|apply W2|apply W3);(simp (disch:=omega) [hlt2, hlt, rd_old _ hmid, x1];exact Red.rfl))
     |((with_reducible apply P6);rfl;(simp (disch:=omega) [hlt2, hlt, rd_old _ hmid, x1];exact Red.rfl);exact Red.rfl;(focus (first|(simp [pr];done)|(simp [pr];omega))))
     |((with_reducible apply P7);rfl;(simp (disch:=omega) [hlt2, hlt, rd_old _ hmid, x1];exact Red.rfl);exact Red.rfl;(focus (simp [repast, pr, AOp.sem];done))))
    (with_reducible apply d_call); (simp; exact Red.rfl); exact c_rwithin' _ _ _ _ hb2; (focus (first | (simp; done) | (simp; omega)))
    cases b2 with
    | false =>
      repeat (first
       |(with_reducible first|apply X1|apply X2|apply X3|apply X4|apply X5|apply X6|apply X7|apply X8|apply X9|apply Y1|apply Y2|apply Y3|apply Y4|apply Y5|apply Y6|apply Y7|apply Y8|apply Y9)
       |((with_reducible apply q_block_other);decide)
       |((with_reducible first|apply e_end|apply d_end);(simp;exact Red.rfl))
       |((first|((with_reducible apply O1);rfl)|((with_reducible apply O2);rfl)|((with_reducible apply P1);rfl)|((with_reducible apply P2);rfl)|((with_reducible apply P3);rfl)|((with_reducible apply P4);rfl)|((with_reducible apply P5);rfl));(simp (disch:=omega);exact Red.rfl);exact Red.rfl;(focus (first|(simp;done)|omega|(simp;omega))))
       |((with_reducible first|apply Z7|apply Z8|apply Z9);(simp (disch:=omega);exact Red.rfl))
       |((with_reducible first|apply Z1|apply Z2|apply Z3|apply Z4|apply Z5|apply Z6);(simp (disch:=omega);exact Red.rfl))
       |((with_reducible first|apply W1|apply W2|apply W3);(simp (disch:=omega);exact Red.rfl))
       |((with_reducible apply P6);rfl;(simp (disch:=omega);exact Red.rfl);exact Red.rfl;(focus (first|(simp [pr];done)|(simp [pr];omega))))
       |((with_reducible apply P7);rfl;(simp (disch:=omega);exact Red.rfl);exact Red.rfl;(focus (simp [repast, pr, AOp.sem];done))))
      refine q_drop (.inr rfl) (by simp; exact Red.rfl) (by simp) ⟨rfl, false, rfl, by simp at hb2; constructor <;> intro h; cases h; have := hall h; omega⟩
    | true =>
      repeat (first
       |(with_reducible first|apply X1|apply X2|apply X3|apply X4|apply X5|apply X6|apply X7|apply X8|apply X9|apply Y1|apply Y2|apply Y3|apply Y4|apply Y5|apply Y6|apply Y7|apply Y8|apply Y9)
       |((with_reducible apply q_block_other);decide)
       |((with_reducible first|apply e_end|apply d_end);(simp;exact Red.rfl))
       |((first|((with_reducible apply O1);rfl)|((with_reducible apply O2);rfl)|((with_reducible apply P1);rfl)|((with_reducible apply P2);rfl)|((with_reducible apply P3);rfl)|((with_reducible apply P4);rfl)|((with_reducible apply P5);rfl));(simp (disch:=omega) [hlt2, hlt, rd_old _ hmid, x2];exact Red.rfl);exact Red.rfl;(focus (first|(simp;done)|omega|(simp;omega))))
       |((with_reducible first|apply Z7|apply Z8|apply Z9);(simp (disch:=omega) [hlt2, hlt, rd_old _ hmid, x2];exact Red.rfl))
       |((with_reducible first|apply Z1|apply Z2|apply Z3|apply Z4|apply Z5|apply Z6);(simp (disch:=omega) [hlt2, hlt, rd_old _ hmid, x2];exact Red.rfl))
       |((with_reducible first|apply W1|apply W2|apply W3);(simp (disch:=omega) [hlt2, hlt, rd_old _ hmid, x2];exact Red.rfl))
       |((with_reducible apply P6);rfl;(simp (disch:=omega) [hlt2, hlt, rd_old _ hmid, x2];exact Red.rfl);exact Red.rfl;(focus (first|(simp [pr];done)|(simp [pr];omega))))
       |((with_reducible apply P7);rfl;(simp (disch:=omega) [hlt2, hlt, rd_old _ hmid, x2];exact Red.rfl);exact Red.rfl;(focus (simp [repast, pr, AOp.sem];done))))
      (with_reducible apply d_call); (simp; exact Red.rfl); exact c_rwithin' _ _ _ _ hb3; (focus (first | (simp; done) | (simp; omega)))
      cases b3 with
      | false =>
        repeat (first
         |(with_reducible first|apply X1|apply X2|apply X3|apply X4|apply X5|apply X6|apply X7|apply X8|apply X9|apply Y1|apply Y2|apply Y3|apply Y4|apply Y5|apply Y6|apply Y7|apply Y8|apply Y9)
         |((with_reducible apply q_block_other);decide)
         |((with_reducible first|apply e_end|apply d_end);(simp;exact Red.rfl))
         |((first|((with_reducible apply O1);rfl)|((with_reducible apply O2);rfl)|((with_reducible apply P1);rfl)|((with_reducible apply P2);rfl)|((with_reducible apply P3);rfl)|((with_reducible apply P4);rfl)|((with_reducible apply P5);rfl));(simp (disch:=omega);exact Red.rfl);exact Red.rfl;(focus (first|(simp;done)|omega|(simp;omega))))
         |((with_reducible first|apply Z7|apply Z8|apply Z9);(simp (disch:=omega);exact Red.rfl))
         |((with_reducible first|apply Z1|apply Z2|apply Z3|apply Z4|apply Z5|apply Z6);(simp (disch:=omega);exact Red.rfl))
         |((with_reducible first|apply W1|apply W2|apply W3);(simp (disch:=omega);exact Red.rfl))
         |((with_reducible apply P6);rfl;(simp (disch:=omega);exact Red.rfl);exact Red.rfl;(focus (first|(simp [pr];done)|(simp [pr];omega))))
         |((with_reducible apply P7);rfl;(simp (disch:=omega);exact Red.rfl);exact Red.rfl;(focus (simp [repast, pr, AOp.sem];done))))
        refine q_drop (.inr rfl) (by simp; exact Red.rfl) (by simp) ⟨rfl, false, rfl, by simp at hb3; constructor <;> intro h; cases h; have := hall h; omega⟩
      | true =>
        by_cases hft : t ≤ f
        · repeat (first
           |(with_reducible first|apply X1|apply X2|apply X3|apply X4|apply X5|apply X6|apply X7|apply X8|apply X9|apply Y1|apply Y2|apply Y3|apply Y4|apply Y5|apply Y6|apply Y7|apply Y8|apply Y9)
           |((with_reducible apply q_block_other);decide)
           |((with_reducible first|apply e_end|apply d_end);(simp;exact Red.rfl))
           |((first|((with_reducible apply O1);rfl)|((with_reducible apply O2);rfl)|((with_reducible apply P1);rfl)|((with_reducible apply P2);rfl)|((with_reducible apply P3);rfl)|((with_reducible apply P4);rfl)|((with_reducible apply P5);rfl));(simp (disch:=omega) [hlt2, hlt, rd_old _ hmid, x1, x2, hft];exact Red.rfl);exact Red.rfl;(focus (first|(simp;done)|omega|(simp;omega))))
           |((with_reducible first|apply Z7|apply Z8|apply Z9);(simp (disch:=omega) [hlt2, hlt, rd_old _ hmid, x1, x2, hft];exact Red.rfl))
           |((with_reducible first|apply Z1|apply Z2|apply Z3|apply Z4|apply Z5|apply Z6);(simp (disch:=omega) [hlt2, hlt, rd_old _ hmid, x1, x2, hft];exact Red.rfl))
           |((with_reducible first|apply W1|apply W2|apply W3);(simp (disch:=omega) [hlt2, hlt, rd_old _ hmid, x1, x2, hft];exact Red.rfl))
           |((with_reducible apply P6);rfl;(simp (disch:=omega) [hlt2, hlt, rd_old _ hmid, x1, x2, hft];exact Red.rfl);exact Red.rfl;(focus (first|(simp [pr];done)|(simp [pr];omega))))
           |((with_reducible apply P7);rfl;(simp (disch:=omega) [hlt2, hlt, rd_old _ hmid, x1, x2, hft];exact Red.rfl);exact Red.rfl;(focus (simp [repast, pr, AOp.sem];done))))
          refine q_drop (.inr rfl) (by simp; exact Red.rfl) (by simp) ⟨rfl, false, rfl, by constructor <;> intro h; cases h; have := hall h; omega⟩
        · repeat (first
           |(with_reducible first|apply X1|apply X2|apply X3|apply X4|apply X5|apply X6|apply X7|apply X8|apply X9|apply Y1|apply Y2|apply Y3|apply Y4|apply Y5|apply Y6|apply Y7|apply Y8|apply Y9)
           |((with_reducible apply q_block_other);decide)
           |((with_reducible first|apply e_end|apply d_end);(simp;exact Red.rfl))
           |((first|((with_reducible apply O1);rfl)|((with_reducible apply O2);rfl)|((with_reducible apply P1);rfl)|((with_reducible apply P2);rfl)|((with_reducible apply P3);rfl)|((with_reducible apply P4);rfl)|((with_reducible apply P5);rfl));(simp (disch:=omega) [hlt2, hlt, rd_old _ hmid, x1, x2, x3, hft];exact Red.rfl);exact Red.rfl;(focus (first|(simp;done)|omega|(simp;omega))))
           |((with_reducible first|apply Z7|apply Z8|apply Z9);(simp (disch:=omega) [hlt2, hlt, rd_old _ hmid, x1, x2, x3, hft];exact Red.rfl))
           |((with_reducible first|apply Z1|apply Z2|apply Z3|apply Z4|apply Z5|apply Z6);(simp (disch:=omega) [hlt2, hlt, rd_old _ hmid, x1, x2, x3, hft];exact Red.rfl))
           |((with_reducible first|apply W1|apply W2|apply W3);(simp (disch:=omega) [hlt2, hlt, rd_old _ hmid, x1, x2, x3, hft];exact Red.rfl))
           |((with_reducible apply P6);rfl;(simp (disch:=omega) [hlt2, hlt, rd_old _ hmid, x1, x2, x3, hft];exact Red.rfl);exact Red.rfl;(focus (first|(simp [pr];done)|(simp [pr];omega))))
           |((with_reducible apply P7);rfl;(simp (disch:=omega) [hlt2, hlt, rd_old _ hmid, x1, x2, x3, hft];exact Red.rfl);exact Red.rfl;(focus (simp [repast, pr, AOp.sem];done))))
          (with_reducible apply d_call); (simp; exact Red.rfl); exact c_rspan' _ _ _ _ _ hb4; (focus (first | (simp; done) | (simp; omega)))
          cases b4 with
          | false =>
            repeat (first
             |(with_reducible first|apply X1|apply X2|apply X3|apply X4|apply X5|apply X6|apply X7|apply X8|apply X9|apply Y1|apply Y2|apply Y3|apply Y4|apply Y5|apply Y6|apply Y7|apply Y8|apply Y9)
             |((with_reducible apply q_block_other);decide)
             |((with_reducible first|apply e_end|apply d_end);(simp;exact Red.rfl))
             |((first|((with_reducible apply O1);rfl)|((with_reducible apply O2);rfl)|((with_reducible apply P1);rfl)|((with_reducible apply P2);rfl)|((with_reducible apply P3);rfl)|((with_reducible apply P4);rfl)|((with_reducible apply P5);rfl));(simp (disch:=omega);exact Red.rfl);exact Red.rfl;(focus (first|(simp;done)|omega|(simp;omega))))
             |((with_reducible first|apply Z7|apply Z8|apply Z9);(simp (disch:=omega);exact Red.rfl))
             |((with_reducible first|apply Z1|apply Z2|apply Z3|apply Z4|apply Z5|apply Z6);(simp (disch:=omega);exact Red.rfl))
             |((with_reducible first|apply W1|apply W2|apply W3);(simp (disch:=omega);exact Red.rfl))
             |((with_reducible apply P6);rfl;(simp (disch:=omega);exact Red.rfl);exact Red.rfl;(focus (first|(simp [pr];done)|(simp [pr];omega))))
             |((with_reducible apply P7);rfl;(simp (disch:=omega);exact Red.rfl);exact Red.rfl;(focus (simp [repast, pr, AOp.sem];done))))
            refine q_drop (.inr rfl) (by simp; exact Red.rfl) (by simp) ⟨rfl, false, rfl, by simp at hb4; constructor <;> intro h; cases h; have := hall h; omega⟩
          | true =>
            repeat (first
             |(with_reducible first|apply X1|apply X2|apply X3|apply X4|apply X5|apply X6|apply X7|apply X8|apply X9|apply Y1|apply Y2|apply Y3|apply Y4|apply Y5|apply Y6|apply Y7|apply Y8|apply Y9)
             |((with_reducible apply q_block_other);decide)
             |((with_reducible first|apply e_end|apply d_end);(simp;exact Red.rfl))
             |((first|((with_reducible apply O1);rfl)|((with_reducible apply O2);rfl)|((with_reducible apply P1);rfl)|((with_reducible apply P2);rfl)|((with_reducible apply P3);rfl)|((with_reducible apply P4);rfl)|((with_reducible apply P5);rfl));(simp (disch:=omega);exact Red.rfl);exact Red.rfl;(focus (first|(simp;done)|omega|(simp;omega))))
             |((with_reducible first|apply Z7|apply Z8|apply Z9);(simp (disch:=omega);exact Red.rfl))
             |((with_reducible first|apply Z1|apply Z2|apply Z3|apply Z4|apply Z5|apply Z6);(simp (disch:=omega);exact Red.rfl))
             |((with_reducible first|apply W1|apply W2|apply W3);(simp (disch:=omega);exact Red.rfl))
             |((with_reducible apply P6);rfl;(simp (disch:=omega);exact Red.rfl);exact Red.rfl;(focus (first|(simp [pr];done)|(simp [pr];omega))))
             |((with_reducible apply P7);rfl;(simp (disch:=omega);exact Red.rfl);exact Red.rfl;(focus (simp [repast, pr, AOp.sem];done))))
            refine q_again ⟨i + 1, by omega, fun j h hj => ?_⟩ (by dsimp only; omega) (.inr ?_)
            · rcases Nat.lt_or_ge j i with h3 | h3
              · exact hok j h h3
              · obtain rfl : j = i := by omega
                rw [hmi]; simp only [Ms.ok]; simp at hb1 hb2 hb3 hb4; omega
            · exact le_same (by simp; omega) (by simp [Red]; omega)
theorem satK_snoc {k : Kind} {l : List Str} {ms : List Ms} {m : Ms} {x : Nat → Int} : SatK k l (ms ++ [m]) x ↔ SatK k l ms x ∧ (m.k = k.num → m.lo ≤ x m.t.toNat - x m.f.toNat ∧ x m.t.toNat - x m.f.toNat ≤ m.hi) := by
  constructor
  · rintro ⟨h1, h2⟩
    refine ⟨⟨h1, fun i hi hk => ?_⟩, fun hk => ?_⟩
    · have := h2 i (by simp; omega)
      rw [List.getElem_append_left hi] at this
      exact this hk
    · have := h2 ms.length (by simp)
      rw [List.getElem_concat_length rfl] at this
      exact this hk
  · rintro ⟨⟨h1, h2⟩, h3⟩
    refine ⟨h1, fun i hi hk => ?_⟩
    rcases Nat.lt_or_ge i ms.length with h4 | h4
    · rw [List.getElem_append_left h4] at hk ⊢
      exact h2 i h4 hk
    · simp at hi
      obtain rfl : i = ms.length := by omega
      rw [List.getElem_concat_length rfl] at hk ⊢
      exact h3 hk
end Go.Proofs
