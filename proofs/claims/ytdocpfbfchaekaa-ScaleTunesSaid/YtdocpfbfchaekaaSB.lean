/- Several texts as one. -/
import Derived.Test.YtdocpfbfchaekaaSA
/- Scale: what the reference and the law say of a scale. -/
namespace Go.Proofs
open Go.Abs
attribute [local simp] AOp.den AOpd.ev lk cellsOf rd_new rd_new0 rd_zero rd_succ wr_new wr_new0 wr_zero wr_succ splice fillA binA scal sliceCells List.length_append argsT AV.sc scL AObj.sc resV getAll AR.get AOp.slots opdSlots opdsSlots partSlots eqAt at_new0 at_new set_new0 set_new wrap64
set_option linter.unusedSimpArgs false
set_option linter.unusedVariables false
theorem c_r4within (H:Heap) (n lo hi:Int) {b:Bool} (hb:b=true↔lo≤n∧n≤hi):ACalls Try.prog F.ref04_within [.int .i64 n,.int .i64 lo,.int .i64 hi] H (fun v h'=>v=.bool b∧h'=H):=by
  have hn:¬ (lo≤n∧n≤hi)→AV.bool false=.bool b:=fun h=>by rw [AV.bool.injEq];cases b;rfl;exact absurd (hb.1 rfl) h
  refine acalls_of ok_ref04_within rfl fun hcl=>?_
  unfold ac_ref04_within zo
  simp only [argsT,Nat.zero_add,Nat.reduceAdd]
  by_cases h1:lo≤n
  · by_cases h2:n≤hi
    · repeat (first|(with_reducible first|apply X1|apply X2|apply X3|apply X8)|((with_reducible apply e_end);(simp;exact Rz))|((with_reducible apply O1);rfl;(simp (disch:=omega) [h1,h2];exact Rz);exact Rz;(focus (first|(simp;done)|omega|(simp;omega))))|((with_reducible apply Z7);(simp (disch:=omega) [h1,h2];exact Rz)))
      refine q_drop0 (.inr rfl) (by simp;exact Rz) (by simp) ⟨by rw [AV.bool.injEq];exact (hb.2 ⟨h1,h2⟩).symm,rfl⟩
    · repeat (first|(with_reducible first|apply X1|apply X2|apply X3|apply X8)|((with_reducible apply e_end);(simp;exact Rz))|((with_reducible apply O1);rfl;(simp (disch:=omega) [h1,h2];exact Rz);exact Rz;(focus (first|(simp;done)|omega|(simp;omega))))|((with_reducible apply Z7);(simp (disch:=omega) [h1,h2];exact Rz)))
      refine q_drop0 (.inr rfl) (by simp;exact Rz) (by simp) ⟨hn (fun h=>h2 h.2),rfl⟩
  · repeat (first|(with_reducible first|apply X1|apply X2|apply X3|apply X8)|((with_reducible apply e_end);(simp;exact Rz))|((with_reducible apply O1);rfl;(simp (disch:=omega) [h1];exact Rz);exact Rz;(focus (first|(simp;done)|omega|(simp;omega))))|((with_reducible apply Z1);(simp (disch:=omega) [h1];exact Rz)))
    refine q_drop0 (.inr rfl) (by simp;exact Rz) (by simp) ⟨hn (fun h=>h1 h.1),rfl⟩
theorem c_r4spanned (H:Heap) (a c lo hi:Int) {b:Bool} (hb:b=true↔a≤c∧lo≤a∧c≤hi):ACalls Try.prog F.ref04_spanned [.agg [.int .i64 a,.int .i64 c],.int .i64 lo,.int .i64 hi] H (fun v h'=>v=.bool b∧h'=H):=by
  have hn:¬ (a≤c∧lo≤a∧c≤hi)→AV.bool false=.bool b:=fun h=>by rw [AV.bool.injEq];cases b;rfl;exact absurd (hb.1 rfl) h
  refine acalls_of ok_ref04_spanned rfl fun hcl=>?_
  unfold ac_ref04_spanned zo
  simp only [argsT,Nat.zero_add,Nat.reduceAdd]
  by_cases h1:lo≤a
  · by_cases h2:a≤c
    · by_cases h3:c≤hi
      · repeat (first|(with_reducible first|apply X1|apply X2|apply X3|apply X8)|((with_reducible apply e_end);(simp;exact Rz))|((with_reducible apply O1);rfl;(simp (disch:=omega) [h1,h2,h3];exact Rz);exact Rz;(focus (first|(simp;done)|omega|(simp;omega))))|((with_reducible apply Z7);(simp (disch:=omega) [h1,h2,h3];exact Rz)))
        refine q_drop (.inr rfl) (by simp;exact Rz) (by simp) ⟨by rw [AV.bool.injEq];exact (hb.2 ⟨h2,h1,h3⟩).symm,rfl⟩
      · repeat (first|(with_reducible first|apply X1|apply X2|apply X3|apply X8)|((with_reducible apply e_end);(simp;exact Rz))|((with_reducible apply O1);rfl;(simp (disch:=omega) [h1,h2,h3];exact Rz);exact Rz;(focus (first|(simp;done)|omega|(simp;omega))))|((with_reducible apply Z7);(simp (disch:=omega) [h1,h2,h3];exact Rz)))
        refine q_drop (.inr rfl) (by simp;exact Rz) (by simp) ⟨hn (fun h=>h3 h.2.2),rfl⟩
    · repeat (first|(with_reducible first|apply X1|apply X2|apply X3|apply X8)|((with_reducible apply e_end);(simp;exact Rz))|((with_reducible apply O1);rfl;(simp (disch:=omega) [h1,h2];exact Rz);exact Rz;(focus (first|(simp;done)|omega|(simp;omega))))|((with_reducible apply Z7);(simp (disch:=omega) [h1,h2];exact Rz))|((with_reducible apply Z1);(simp (disch:=omega) [h1,h2];exact Rz)))
      refine q_drop (.inr rfl) (by simp;exact Rz) (by simp) ⟨hn (fun h=>h2 h.1),rfl⟩
  · repeat (first|(with_reducible first|apply X1|apply X2|apply X3|apply X8)|((with_reducible apply e_end);(simp;exact Rz))|((with_reducible apply O1);rfl;(simp (disch:=omega) [h1];exact Rz);exact Rz;(focus (first|(simp;done)|omega|(simp;omega))))|((with_reducible apply Z1);(simp (disch:=omega) [h1];exact Rz)))
    refine q_drop (.inr rfl) (by simp;exact Rz) (by simp) ⟨hn (fun h=>h1 h.2.1),rfl⟩
theorem c_r4shown (H:Heap) (s:Sc) (n:Int) (hs:1≤s.step∧s.step≤500) {b:Bool} (hb:b=true↔s.can n):ACalls Try.prog F.ref04_shown [.int .i64 n,.int .i64 s.step] H (fun v h'=>v=.bool b∧h'=H):=by
  have h0:¬ s.step=0:=by omega
  obtain⟨b1,h1⟩:=bof (-2000000≤n∧n≤2000000)
  refine acalls_of ok_ref04_shown rfl fun hcl=>?_
  unfold ac_ref04_shown zo
  simp only [argsT,Nat.zero_add,Nat.reduceAdd]
  repeat (first|(with_reducible first|apply X1|apply X2|apply X8)|((with_reducible apply e_end);(simp;exact Rz))|((with_reducible apply O1);rfl;(simp (disch:=omega);exact Rz);exact Rz;(focus (first|(simp;done)|omega|(simp;omega)))))
  (with_reducible apply e_call);(simp;exact Rz);exact c_r4within _ _ _ _ h1
  rintro _ _ ⟨rfl,rfl⟩
  cases b1 with
  | false =>
    repeat (first|(with_reducible first|apply X3|apply X8)|((with_reducible apply e_end);(simp;exact Rz))|((with_reducible apply O1);rfl;(simp (disch:=omega);exact Rz);exact Rz;(focus (first|(simp;done)|omega|(simp;omega))))|((with_reducible apply Z1);(simp (disch:=omega);exact Rz)))
    refine q_drop0 (.inr rfl) (by simp;exact Rz) (by simp) ⟨by rw [AV.bool.injEq];cases b;rfl;exact absurd (h1.2 (hb.1 rfl).2) (by decide),rfl⟩
  | true =>
    by_cases hm:n.tmod s.step=0
    · repeat (first|(with_reducible first|apply X3|apply X8)|((with_reducible apply e_end);(simp;exact Rz))|((with_reducible apply O1);rfl;(simp (disch:=omega) [h0,hm];exact Rz);exact Rz;(focus (first|(simp;done)|omega|(simp;omega))))|((with_reducible apply Z7);(simp (disch:=omega) [h0,hm];exact Rz)))
      refine q_drop0 (.inr rfl) (by simp;exact Rz) (by simp) ⟨by rw [AV.bool.injEq];exact (hb.2 ⟨hm,h1.1 rfl⟩).symm,rfl⟩
    · repeat (first|(with_reducible first|apply X3|apply X8)|((with_reducible apply e_end);(simp;exact Rz))|((with_reducible apply O1);rfl;(simp (disch:=omega) [h0,hm];exact Rz);exact Rz;(focus (first|(simp;done)|omega|(simp;omega))))|((with_reducible apply Z7);(simp (disch:=omega) [h0,hm];exact Rz)))
      refine q_drop0 (.inr rfl) (by simp;exact Rz) (by simp) ⟨by rw [AV.bool.injEq];cases b;rfl;exact absurd (hb.1 rfl).1 hm,rfl⟩
set_option maxHeartbeats 2000000 in
theorem c_r4Scale (H:Heap) (s:Sc) (tid toff:Nat) (ex:Bool) (ht:rd H tid toff (s.ts.length * 2)=some (s.ts.flatMap Ti.av)) (hn:(s.ts.length:Int)<1000000) {b:Bool} (hb:b=true↔s.ok) :
    ACalls Try.prog F.ref04_Scale [.agg (s.av tid toff ex)] H (fun v h'=>v=.bool b∧h'=H):=by
  have htl:=rd_lt ht
  have hno:¬ s.ok→AV.bool false=.bool b:=fun h=>by rw [AV.bool.injEq];cases b;rfl;exact absurd (hb.1 rfl) h
  obtain⟨b1,h1⟩:=bof (0≤s.id∧s.id≤9999)
  obtain⟨b2,h2⟩:=bof (1≤s.step∧s.step≤500)
  obtain⟨b3,h3⟩:=bof (s.gLo≤s.gHi∧-10≤s.gLo∧s.gHi≤10)
  obtain⟨b4,h4⟩:=bof (s.oLo≤s.oHi∧-100≤s.oLo∧s.oHi≤100)
  simp only [Sc.av]
  refine acalls_of ok_ref04_Scale rfl fun hcl=>?_
  unfold ac_ref04_Scale zo
  simp only [argsT,Nat.zero_add,Nat.reduceAdd]
  repeat (first|(with_reducible first|apply X1|apply X2|apply X8)|((with_reducible apply e_end);(simp;exact Rz))|((with_reducible apply O1);rfl;(simp (disch:=omega);exact Rz);exact Rz;(focus (first|(simp;done)|omega|(simp;omega)))))
  (with_reducible apply e_call);(simp;exact Rz);exact c_r4within _ _ _ _ h1
  rintro _ _ ⟨rfl,rfl⟩
  cases b1 with
  | false =>
    repeat (first|(with_reducible first|apply X1|apply X2|apply X3|apply X8|apply X9)|((with_reducible apply e_end);(simp;exact Rz))|((with_reducible apply O1);rfl;(simp (disch:=omega);exact Rz);exact Rz;(focus (first|(simp;done)|omega|(simp;omega))))|((with_reducible apply Z9);(simp (disch:=omega);exact Rz))|((with_reducible apply Z2);(simp (disch:=omega);exact Rz)))
    refine q_drop (.inr rfl) (by simp;exact Rz) (by simp) ⟨hno fun h=>absurd (h1.2 h.b.1) (by decide),rfl⟩
  | true =>
  repeat (first|((with_reducible apply O1);rfl;(simp (disch:=omega);exact Rz);exact Rz;(focus (first|(simp;done)|omega|(simp;omega))))|((with_reducible apply Z7);(simp (disch:=omega);exact Rz)))
  (with_reducible apply e_call);(simp;exact Rz);exact c_r4within _ _ _ _ h2
  rintro _ _ ⟨rfl,rfl⟩
  cases b2 with
  | false =>
    repeat (first|(with_reducible first|apply X1|apply X2|apply X3|apply X8|apply X9)|((with_reducible apply e_end);(simp;exact Rz))|((with_reducible apply O1);rfl;(simp (disch:=omega);exact Rz);exact Rz;(focus (first|(simp;done)|omega|(simp;omega))))|((with_reducible first|apply Z7|apply Z9);(simp (disch:=omega);exact Rz))|((with_reducible apply Z2);(simp (disch:=omega);exact Rz)))
    refine q_drop (.inr rfl) (by simp;exact Rz) (by simp) ⟨hno fun h=>absurd (h2.2 h.b.2.1) (by decide),rfl⟩
  | true =>
  repeat (first|((with_reducible apply O1);rfl;(simp (disch:=omega);exact Rz);exact Rz;(focus (first|(simp;done)|omega|(simp;omega))))|((with_reducible apply Z7);(simp (disch:=omega);exact Rz)))
  (with_reducible apply e_call);(simp;exact Rz);exact c_r4spanned _ _ _ _ _ h3
  rintro _ _ ⟨rfl,rfl⟩
  cases b3 with
  | false =>
    repeat (first|(with_reducible first|apply X1|apply X2|apply X3|apply X8|apply X9)|((with_reducible apply e_end);(simp;exact Rz))|((with_reducible apply O1);rfl;(simp (disch:=omega);exact Rz);exact Rz;(focus (first|(simp;done)|omega|(simp;omega))))|((with_reducible first|apply Z7|apply Z9);(simp (disch:=omega);exact Rz))|((with_reducible apply Z2);(simp (disch:=omega);exact Rz)))
    refine q_drop (.inr rfl) (by simp;exact Rz) (by simp) ⟨hno fun h=>absurd (h3.2 h.b.2.2.1) (by decide),rfl⟩
  | true =>
  repeat (first|((with_reducible apply O1);rfl;(simp (disch:=omega);exact Rz);exact Rz;(focus (first|(simp;done)|omega|(simp;omega))))|((with_reducible apply Z7);(simp (disch:=omega);exact Rz)))
  (with_reducible apply e_call);(simp;exact Rz);exact c_r4spanned _ _ _ _ _ h4
  rintro _ _ ⟨rfl,rfl⟩
  cases b4 with
  | false =>
    repeat (first|(with_reducible first|apply X1|apply X2|apply X3|apply X8|apply X9)|((with_reducible apply e_end);(simp;exact Rz))|((with_reducible apply O1);rfl;(simp (disch:=omega);exact Rz);exact Rz;(focus (first|(simp;done)|omega|(simp;omega))))|((with_reducible first|apply Z7|apply Z9);(simp (disch:=omega);exact Rz))|((with_reducible apply Z2);(simp (disch:=omega);exact Rz)))
    refine q_drop (.inr rfl) (by simp;exact Rz) (by simp) ⟨hno fun h=>absurd (h4.2 h.b.2.2.2) (by decide),rfl⟩
  | true =>
  have hbl:s.built:=⟨h1.1 rfl,h2.1 rfl,h3.1 rfl,h4.1 rfl⟩
  by_cases h6:6<s.ts.length
  · have h62:(6:Int)<s.ts.length:=by omega
    repeat (first|(with_reducible first|apply X1|apply X2|apply X3|apply X8|apply X9)|((with_reducible apply e_end);(simp;exact Rz))|((with_reducible apply O1);rfl;(simp (disch:=omega) [h6,h62];exact Rz);exact Rz;(focus (first|(simp;done)|omega|(simp;omega))))|((with_reducible first|apply Z7|apply Z9);(simp (disch:=omega) [h6,h62];exact Rz)))
    refine q_drop (.inr rfl) (by simp;exact Rz) (by simp) ⟨hno fun h=>by have:=h.len;omega,rfl⟩
  have h62:¬ (6:Int)<s.ts.length:=by omega
  repeat (first|(with_reducible first|apply X1|apply X2|apply X5|apply X6|apply X8)|((with_reducible apply e_end);(simp;exact Rz))|((with_reducible apply O1);rfl;(simp (disch:=omega) [h6,h62];exact Rz);exact Rz;(focus (first|(simp;done)|omega|(simp;omega))))|((with_reducible apply Z7);(simp (disch:=omega) [h6,h62];exact Rz))|((with_reducible apply W3);(simp (disch:=omega) [h6,h62];exact Rz)))
  refine e_loop (ι:={ i:Nat // i≤s.ts.length∧∀ j,j<i→s.tri (s.t j) })
    (fun i=>[(1,.ptr H.length 0),(3,.int .i64 i.1)]) (fun _=>H++[.cells [.int .i64 s.id,.int .i64 s.step,.int .i64 s.gLo,.int .i64 s.gHi,.int .i64 s.oLo,.int .i64 s.oHi,.slice tid toff s.ts.length 2 ex] true]) (fun i=>s.ts.length-i.1) ⟨0,by simp⟩ ?_ ?_
  · exact .inl (by simp)
  · rintro⟨i,hi,hok⟩
    dsimp only
    by_cases hlt:i<s.ts.length
    · have hlt2:(i:Int)<s.ts.length:=by omega
      have hx:=rd_row Ti.av_length ht hlt
      rw [← Sc.t_eq hlt] at hx
      simp only [Ti.av] at hx
      have hx0:rd H tid (toff+i * 2) 1=some [.int .i64 (s.t i).w]:=by have:=rd_sub' hx 0 1 (by omega);simpa using this
      have hx1:rd H tid (toff+i * 2+1) 1=some [.int .i64 (s.t i).n]:=by have:=rd_sub' hx 1 1 (by omega);simpa using this
      obtain⟨c1,g1⟩:=bof (0≤(s.t i).w∧(s.t i).w≤1000000)
      obtain⟨c2,g2⟩:=bof (s.can (s.t i).n)
      repeat (first|(with_reducible first|apply X1|apply X2|apply X5|apply X6|apply X8|apply Y9)|((with_reducible apply e_end);(simp;exact Rz))|((first|((with_reducible apply O1);rfl)|((with_reducible apply P1);rfl)|((with_reducible apply P2);rfl));(simp (disch:=omega) [hlt,hlt2,rd_old _ htl,hx0,hx1];exact Rz);exact Rz;(focus (first|(simp;done)|omega|(simp;omega))))|((with_reducible apply Z9);(simp (disch:=omega) [hlt,hlt2,rd_old _ htl,hx0,hx1];exact Rz)))
      (with_reducible apply d_call);(simp;exact Rz);exact c_r4within _ _ _ _ g1;(focus (first|(simp;done)|(simp;omega)))
      cases c1 with
      | false =>
        repeat (first|(with_reducible first|apply X1|apply X2|apply X3|apply X8|apply X9|apply Y3|apply Y5)|((with_reducible first|apply e_end|apply d_end);(simp;exact Rz))|((first|((with_reducible apply O1);rfl)|((with_reducible apply P1);rfl));(simp (disch:=omega);exact Rz);exact Rz;(focus (first|(simp;done)|omega|(simp;omega))))|((with_reducible apply Z9);(simp (disch:=omega);exact Rz))|((with_reducible apply Z6);(simp (disch:=omega);exact Rz)))
        refine q_drop (.inr rfl) (by simp;exact Rz) (by simp) ⟨hno fun h=>absurd (g1.2 (h.tr i hlt).1) (by decide),rfl⟩
      | true =>
        repeat (first|((first|((with_reducible apply P1);rfl)|((with_reducible apply P2);rfl));(simp (disch:=omega) [hlt,hlt2,rd_old _ htl,hx0,hx1];exact Rz);exact Rz;(focus (first|(simp;done)|omega|(simp;omega))))|((with_reducible apply Z8);(simp (disch:=omega) [hlt,hlt2,rd_old _ htl,hx0,hx1];exact Rz)))
        (with_reducible apply d_call);(simp;exact Rz);exact c_r4shown _ s _ hbl.2.1 g2;(focus (first|(simp;done)|(simp;omega)))
        cases c2 with
        | false =>
          repeat (first|(with_reducible first|apply X1|apply X2|apply X3|apply X8|apply X9|apply Y3|apply Y5)|((with_reducible first|apply e_end|apply d_end);(simp;exact Rz))|((first|((with_reducible apply O1);rfl)|((with_reducible apply P1);rfl));(simp (disch:=omega);exact Rz);exact Rz;(focus (first|(simp;done)|omega|(simp;omega))))|((with_reducible first|apply Z8|apply Z9);(simp (disch:=omega);exact Rz)))
          refine q_drop (.inr rfl) (by simp;exact Rz) (by simp) ⟨hno fun h=>absurd (g2.2 (h.tr i hlt).2) (by decide),rfl⟩
        | true =>
          repeat (first|(with_reducible first|apply X2|apply X5|apply X8|apply Y2)|((with_reducible first|apply e_end|apply d_end);(simp;exact Rz))|((first|((with_reducible apply O1);rfl)|((with_reducible apply P1);rfl));(simp (disch:=omega);exact Rz);exact Rz;(focus (first|(simp;done)|omega|(simp;omega))))|((with_reducible apply Z8);(simp (disch:=omega);exact Rz))|((with_reducible apply W3);(simp (disch:=omega);exact Rz)))
          refine q_again ⟨i+1,hlt,?_⟩ (by dsimp only;omega) (.inl (by simp))
          intro j hj
          rcases Nat.lt_or_ge j i with h|h
          · exact hok j h
          · obtain rfl:j=i:=by omega
            exact⟨g1.1 rfl,g2.1 rfl⟩
    · have hlt2:¬ (i:Int)<s.ts.length:=by omega
      obtain rfl:i=s.ts.length:=by omega
      repeat (first|(with_reducible first|apply X1|apply X2|apply X3|apply X4|apply X8|apply Y1|apply Y4|apply Y6)|((with_reducible apply e_end);(simp;exact Rz))|((with_reducible apply O1);rfl;(simp (disch:=omega) [hlt2];exact Rz);exact Rz;(focus (first|(simp;done)|omega|(simp;omega))))|((with_reducible apply W3);(simp (disch:=omega) [hlt2];exact Rz)))
      refine q_drop (.inr rfl) (by simp;exact Rz) (by simp) ⟨by rw [AV.bool.injEq];exact (hb.2 ⟨hbl,by omega,hok⟩).symm,rfl⟩
def Sc.shows (s:Sc) (g o w n:Int):Prop:=1000 * n≤w * (1000+g)+1000 * o∧w * (1000+g)+1000 * o<1000 * (n+s.step)
theorem shows_iff (s:Sc) (g o w n:Int):s.shows g o w n↔n-gr g w≤o∧o≤n-gr g w+s.step-1:=by
  simp only [Sc.shows,gr]
  omega
def Sc.tru (s:Sc) (g o:Int):Prop:=(∀ i,i<s.ts.length→s.shows g o (s.t i).w (s.t i).n)∧(s.gLo≤g∧g≤s.gHi)∧(s.oLo≤o∧o≤s.oHi)
theorem o_iff (s:Sc) (g o:Int):∀ j,(oLoF s g j≤o∧o≤oHiF s g j)↔(s.oLo≤o∧o≤s.oHi)∧∀ i,i<j→s.shows g o (s.t i).w (s.t i).n
  | 0=>by simp [oLoF,oHiF]
  | j+1=>by
    have ih:=o_iff s g o j
    have hs:=shows_iff s g o (s.t j).w (s.t j).n
    constructor
    · intro h
      simp only [oLoF,oHiF] at h
      have h1:=ih.1 ⟨by omega,by omega⟩
      refine⟨h1.1,fun i hi=>?_⟩
      rcases Nat.lt_or_ge i j with h2|h2
      · exact h1.2 i h2
      · obtain rfl:i=j:=by omega
        exact hs.2 ⟨by omega,by omega⟩
    · rintro⟨h1,h2⟩
      have h3:=ih.2 ⟨h1,fun i hi=>h2 i (by omega)⟩
      have h4:=hs.1 (h2 j (by omega))
      simp only [oLoF,oHiF]
      omega
theorem c_r4Shows (H:Heap) (s:Sc) (tid toff:Nat) (ex:Bool) (ht:tid<H.length) (hs:1≤s.step∧s.step≤500) (g o w n:Int) (hg:-10≤g∧g≤10) (ho:-4000000≤o∧o≤4000000) (hw:0≤w∧w≤1000000) (hn:-2000000≤n∧n≤2000000) {b:Bool} (hb:b=true↔s.shows g o w n) :
    ACalls Try.prog F.ref04_Shows [.agg (s.av tid toff ex),.int .i64 g,.int .i64 o,.int .i64 w,.int .i64 n] H (fun v h'=>v=.bool b∧h'=H):=by
  have h1:=gr_bd hg hw
  have hno:¬ s.shows g o w n→AV.bool false=.bool b:=fun h=>by rw [AV.bool.injEq];cases b;rfl;exact absurd (hb.1 rfl) h
  simp only [Sc.av,Sc.shows] at *
  refine acalls_of ok_ref04_Shows rfl fun hcl=>?_
  unfold ac_ref04_Shows zo
  simp only [argsT,Nat.zero_add,Nat.reduceAdd]
  by_cases c1:1000 * n≤w * (1000+g)+1000 * o
  · by_cases c2:w * (1000+g)+1000 * o<1000 * (n+s.step)
    · repeat (first|(with_reducible first|apply X1|apply X2|apply X3|apply X8)|((with_reducible apply e_end);(simp;exact Rz))|((with_reducible apply O1);rfl;(simp (disch:=omega) [c1,c2];exact Rz);exact Rz;(focus (first|(simp;done)|omega|(simp;omega))))|((with_reducible apply Z7);(simp (disch:=omega) [c1,c2];exact Rz)))
      refine q_drop (.inr rfl) (by simp;exact Rz) (by simp) ⟨by rw [AV.bool.injEq];exact (hb.2 ⟨c1,c2⟩).symm,rfl⟩
    · repeat (first|(with_reducible first|apply X1|apply X2|apply X3|apply X8)|((with_reducible apply e_end);(simp;exact Rz))|((with_reducible apply O1);rfl;(simp (disch:=omega) [c1,c2];exact Rz);exact Rz;(focus (first|(simp;done)|omega|(simp;omega))))|((with_reducible apply Z7);(simp (disch:=omega) [c1,c2];exact Rz)))
      refine q_drop (.inr rfl) (by simp;exact Rz) (by simp) ⟨hno (fun h=>c2 h.2),rfl⟩
  · repeat (first|(with_reducible first|apply X1|apply X2|apply X3|apply X8)|((with_reducible apply e_end);(simp;exact Rz))|((with_reducible apply O1);rfl;(simp (disch:=omega) [c1];exact Rz);exact Rz;(focus (first|(simp;done)|omega|(simp;omega))))|((with_reducible apply Z1);(simp (disch:=omega) [c1];exact Rz)))
    refine q_drop (.inr rfl) (by simp;exact Rz) (by simp) ⟨hno (fun h=>c1 h.1),rfl⟩
set_option maxHeartbeats 1000000 in
theorem c_r4True (H:Heap) (s:Sc) (tid toff:Nat) (ex:Bool) (ht:rd H tid toff (s.ts.length * 2)=some (s.ts.flatMap Ti.av)) (hok:s.ok) (g o:Int) (hg:-10≤g∧g≤10) (ho:-4000000≤o∧o≤4000000) {b:Bool} (hb:b=true↔s.tru g o) :
    ACalls Try.prog F.ref04_True [.agg (s.av tid toff ex),.int .i64 g,.int .i64 o] H (fun v h'=>v=.bool b∧h'=H):=by
  have htl:=rd_lt ht
  have hbu:=hok.b
  simp only [Sc.built] at hbu
  have hl6:=hok.len
  have hno:¬ s.tru g o→AV.bool false=.bool b:=fun h=>by rw [AV.bool.injEq];cases b;rfl;exact absurd (hb.1 rfl) h
  obtain⟨b1,h1⟩:=bof (s.gLo≤g∧g≤s.gHi)
  obtain⟨b2,h2⟩:=bof (s.oLo≤o∧o≤s.oHi)
  have ks:=fun X w n hw hn (c:Bool) h=>c_r4Shows (H++X) s tid toff ex (by simp;omega) hbu.2.1 g o w n hg ho hw hn (b:=c) h
  simp only [Sc.av] at ks ⊢
  refine acalls_of ok_ref04_True rfl fun hcl=>?_
  unfold ac_ref04_True zo
  simp only [argsT,Nat.zero_add,Nat.reduceAdd]
  repeat (first|(with_reducible first|apply X1|apply X2|apply X6|apply X8)|((with_reducible apply e_end);(simp;exact Rz))|((with_reducible apply O1);rfl;(simp (disch:=omega);exact Rz);exact Rz;(focus (first|(simp;done)|omega|(simp;omega)))))
  refine e_loop (ι:={ i:Nat // i≤s.ts.length∧∀ j,j<i→s.shows g o (s.t j).w (s.t j).n })
    (fun i=>[(1,.int .i64 g),(2,.int .i64 o),(3,.ptr H.length 0),(7,.int .i64 i.1)]) (fun _=>H++[.cells [.int .i64 s.id,.int .i64 s.step,.int .i64 s.gLo,.int .i64 s.gHi,.int .i64 s.oLo,.int .i64 s.oHi,.slice tid toff s.ts.length 2 ex] true]) (fun i=>s.ts.length-i.1) ⟨0,by simp⟩ ?_ ?_
  · exact .inl (by simp)
  · rintro⟨i,hi,hsh⟩
    dsimp only
    by_cases hlt:i<s.ts.length
    · have hlt2:(i:Int)<s.ts.length:=by omega
      have hx:=rd_row Ti.av_length ht hlt
      rw [← Sc.t_eq hlt] at hx
      simp only [Ti.av] at hx
      have hx0:rd H tid (toff+i * 2) 1=some [.int .i64 (s.t i).w]:=by have:=rd_sub' hx 0 1 (by omega);simpa using this
      have hx1:rd H tid (toff+i * 2+1) 1=some [.int .i64 (s.t i).n]:=by have:=rd_sub' hx 1 1 (by omega);simpa using this
      have hti:=hok.tr i hlt
      simp only [Sc.tri,Sc.can] at hti
      obtain⟨c1,g1⟩:=bof (s.shows g o (s.t i).w (s.t i).n)
      repeat (first|(with_reducible first|apply X1|apply X2|apply X5|apply X6|apply X8|apply Y9)|((with_reducible apply e_end);(simp;exact Rz))|((first|((with_reducible apply O1);rfl)|((with_reducible apply P1);rfl)|((with_reducible apply P2);rfl));(simp (disch:=omega) [hlt,hlt2,rd_old _ htl,hx0,hx1];exact Rz);exact Rz;(focus (first|(simp;done)|omega|(simp;omega))))|((with_reducible apply Z9);(simp (disch:=omega) [hlt,hlt2,rd_old _ htl,hx0,hx1];exact Rz)))
      (with_reducible apply d_call);(simp;exact Rz);exact ks _ _ _ hti.1 hti.2.2 _ g1;(focus (first|(simp;done)|(simp;omega)))
      cases c1 with
      | false =>
        repeat (first|(with_reducible first|apply X1|apply X2|apply X3|apply X8|apply X9|apply Y3|apply Y5)|((with_reducible first|apply e_end|apply d_end);(simp;exact Rz))|((first|((with_reducible apply O1);rfl)|((with_reducible apply P1);rfl));(simp (disch:=omega);exact Rz);exact Rz;(focus (first|(simp;done)|omega|(simp;omega))))|((with_reducible apply Z9);(simp (disch:=omega);exact Rz)))
        refine q_drop (.inr rfl) (by simp;exact Rz) (by simp) ⟨hno fun h=>absurd (g1.2 (h.1 i hlt)) (by decide),rfl⟩
      | true =>
        repeat (first|(with_reducible first|apply X2|apply X5|apply X8|apply Y2)|((with_reducible first|apply e_end|apply d_end);(simp;exact Rz))|((first|((with_reducible apply O1);rfl)|((with_reducible apply P1);rfl));(simp (disch:=omega);exact Rz);exact Rz;(focus (first|(simp;done)|omega|(simp;omega))))|((with_reducible apply W3);(simp (disch:=omega);exact Rz)))
        refine q_again ⟨i+1,hlt,?_⟩ (by dsimp only;omega) (.inl (by simp))
        intro j hj
        rcases Nat.lt_or_ge j i with h|h
        · exact hsh j h
        · obtain rfl:j=i:=by omega
          exact g1.1 rfl
    · have hlt2:¬ (i:Int)<s.ts.length:=by omega
      obtain rfl:i=s.ts.length:=by omega
      repeat (first|(with_reducible first|apply X1|apply X2|apply X4|apply X8|apply Y1|apply Y4|apply Y6)|((with_reducible apply e_end);(simp;exact Rz))|((with_reducible apply O1);rfl;(simp (disch:=omega) [hlt2];exact Rz);exact Rz;(focus (first|(simp;done)|omega|(simp;omega))))|((with_reducible apply W3);(simp (disch:=omega) [hlt2];exact Rz)))
      (with_reducible apply e_call);(simp;exact Rz);exact c_r4within _ _ _ _ h1
      rintro _ _ ⟨rfl,rfl⟩
      cases b1 with
      | false =>
        repeat (first|(with_reducible first|apply X3|apply X8)|((with_reducible apply e_end);(simp;exact Rz))|((with_reducible apply O1);rfl;(simp (disch:=omega);exact Rz);exact Rz;(focus (first|(simp;done)|omega|(simp;omega))))|((with_reducible apply Z1);(simp (disch:=omega);exact Rz)))
        refine q_drop (.inr rfl) (by simp;exact Rz) (by simp) ⟨hno fun h=>absurd (h1.2 h.2.1) (by decide),rfl⟩
      | true =>
        repeat (first|((with_reducible apply O1);rfl;(simp (disch:=omega);exact Rz);exact Rz;(focus (first|(simp;done)|omega|(simp;omega))))|((with_reducible apply Z7);(simp (disch:=omega);exact Rz)))
        (with_reducible apply e_call);(simp;exact Rz);exact c_r4within _ _ _ _ h2
        rintro _ _ ⟨rfl,rfl⟩
        repeat (first|(with_reducible first|apply X3|apply X8)|((with_reducible apply e_end);(simp;exact Rz))|((with_reducible apply O1);rfl;(simp (disch:=omega);exact Rz);exact Rz;(focus (first|(simp;done)|omega|(simp;omega)))))
        refine q_drop (.inr rfl) (by simp;exact Rz) (by simp) ⟨by rw [AV.bool.injEq,Bool.eq_iff_iff,h2,hb];exact⟨fun h=>⟨hsh,h1.1 rfl,h⟩,fun h=>h.2.2⟩,rfl⟩
theorem TG_mem {s:Sc} {k j:Nat}:j∈TG s k↔j<k∧tunB s (s.gLo+j)=true:=by
  simp [TG,List.mem_filter,List.mem_range]
def tgN (s:Sc) (i:Nat):Nat:=(TG s s.gs).getD i 0
theorem tgN_get {s:Sc} {i:Nat} (h:i<(TG s s.gs).length):tgN s i=(TG s s.gs)[i]:=by simp [tgN,h]
theorem tgA_eq (s:Sc) (i:Nat):tgA s i=s.gLo+tgN s i:=rfl
theorem tgN_ok {s:Sc} {i:Nat} (h:i<(TG s s.gs).length):tgN s i<s.gs∧tunB s (tgA s i)=true:=by
  have:=TG_mem.1 (List.getElem_mem h)
  rw [← tgN_get h] at this
  exact this
theorem tgN_all {s:Sc} {k:Nat} (hk:k<s.gs) (ht:tunB s (s.gLo+k)=true):∃ i,i<(TG s s.gs).length∧tgN s i=k:=by
  obtain⟨i,hi,he⟩:=List.getElem_of_mem (TG_mem.2 ⟨hk,ht⟩)
  exact⟨i,hi,by rw [tgN_get hi,he]⟩
theorem gs_eq {s:Sc} (hs:s.ok):(s.gs:Int)=s.gHi-s.gLo+1:=by
  have:=hs.b;simp only [Sc.built] at this;simp only [Sc.gs];omega
theorem tgA_bd {s:Sc} (hs:s.ok) {i:Nat} (h:i<(TG s s.gs).length):s.gLo≤tgA s i∧tgA s i≤s.gHi:=by
  have:=(tgN_ok h).1
  have:=gs_eq hs
  rw [tgA_eq];omega
theorem tru_iff {s:Sc} (hs:s.ok) (g o:Int):s.tru g o↔∃ i,i<(TG s s.gs).length∧tgA s i=g∧oLoF s g s.ts.length≤o∧o≤oHiF s g s.ts.length:=by
  have hg:=gs_eq hs
  have ho:=o_iff s g o s.ts.length
  constructor
  · rintro⟨h1,h2,h3⟩
    have h4:=ho.2 ⟨h3,h1⟩
    obtain⟨i,hi,he⟩:=tgN_all (s:=s) (k:=(g-s.gLo).toNat) (by omega) (by
      rw [show s.gLo+((g-s.gLo).toNat:Int)=g by omega]
      simp only [tunB,decide_eq_true_eq];omega)
    exact⟨i,hi,by rw [tgA_eq,he];omega,h4⟩
  · rintro⟨i,hi,rfl,h1⟩
    have h2:=ho.1 h1
    exact⟨h2.2,tgA_bd hs hi,h2.1⟩
theorem ti_plain:∀ l:List Ti,Plain (l.flatMap Ti.av)
  | []=>Plain.nil
  | t :: l=>by
    rw [List.flatMap_cons]
    exact Plain.app ⟨rfl,fun _=>rfl,fun _=>rfl⟩ (ti_plain l)
theorem c_TwinScale (H:Heap) (s:Sc) (tid toff:Nat) (ex:Bool) (ht:rd H tid toff (s.ts.length * 2)=some (s.ts.flatMap Ti.av)) (hn:s.ts.length≤1000) :
    ACalls Try.prog F.ref04_TwinScale [.agg (s.av tid toff ex)] H (fun v h'=>v=.agg (s.av H.length 0 false)∧h'=H++[.cells (s.ts.flatMap Ti.av) true]):=by
  have htl:=rd_lt ht
  have pl:=ti_plain s.ts
  simp only [Sc.av]
  refine acalls_of ok_ref04_TwinScale rfl fun hcl=>?_
  unfold ac_ref04_TwinScale zo
  simp only [argsT,Nat.zero_add,Nat.reduceAdd]
  repeat (first|(with_reducible first|apply X1|apply X2|apply X3|apply X8)|((with_reducible apply e_end);(simp;exact Rz))|((first|((with_reducible apply O1);rfl)|((with_reducible apply O2);rfl));(simp (disch:=omega) [rd_old _ htl,ht,pl.scal];exact Rz);exact Rz;(focus (first|(simp;done)|omega|(simp;omega)))))
  exact q_post (v':=.agg [.int .i64 s.id,.int .i64 s.step,.int .i64 s.gLo,.int .i64 s.gHi,.int .i64 s.oLo,.int .i64 s.oHi,.slice H.length 0 s.ts.length 2 false]) (.inr rfl) (by simp;exact Rz) (le_plain [3] _ (by simp) rfl (by simp;exact pl.o _) (by simp [sh,AV.ren,renL])) ⟨rfl,rfl⟩
def Sc.more (s:Sc) (t:Ti):Sc:={ s with ts:=s.ts++[t] }
theorem o_in (s:Sc) (g:Int):∀ j,s.oLo≤oLoF s g j∧oHiF s g j≤s.oHi
  | 0=>⟨Int.le_refl _,Int.le_refl _⟩
  | j+1=>by
    have ih:=o_in s g j
    simp only [oLoF,oHiF]
    omega
theorem tru_at {s:Sc} (hs:s.ok) {i:Nat} (h:i<(TG s s.gs).length):s.tru (tgA s i) (oLoF s (tgA s i) s.ts.length)∧s.tru (tgA s i) (oHiF s (tgA s i) s.ts.length):=by
  have ht:=(tgN_ok h).2
  simp only [tunB,decide_eq_true_eq] at ht
  exact⟨(tru_iff hs _ _).2 ⟨i,h,rfl,Int.le_refl _,ht⟩,(tru_iff hs _ _).2 ⟨i,h,rfl,ht,Int.le_refl _⟩⟩
theorem AAt.tun {h:Heap} {v:AV} {s:Sc} (hA:AAt h 3 v (tunL s (TG s s.gs)) (TG s s.gs).length) {i:Nat} (hi:i<(TG s s.gs).length):∃ id,v=.slice id 0 (TG s s.gs).length 3 false∧id<h.length∧∀ i,i<(TG s s.gs).length→rd h id (i * 3) 3=some [.int .i64 (tgA s i),.int .i64 (oLoF s (tgA s i) s.ts.length),.int .i64 (oHiF s (tgA s i) s.ts.length)]:=by
  obtain⟨hc,⟨_,h0⟩|⟨id,_,rfl,hh⟩⟩:=hA
  · omega
  refine⟨id,rfl,(List.getElem?_eq_some_iff.1 hh).1,fun i hi=>?_⟩
  have e1:=flat_row (f:=tunV s) (k:=3) (fun _=>rfl) (TG s s.gs) i hi
  rw [rd_cellsK hh (by rw [hc];omega)]
  rw [show tunL s (TG s s.gs)=(TG s s.gs).flatMap (tunV s) from rfl,e1]
  simp [tunV,tgA,hi]
def Sc.os (s:Sc):Nat:=(s.oHi-s.oLo+1).toNat
theorem tru_in {s:Sc} {g o:Int} (hg:s.gLo≤g∧g≤s.gHi):s.tru g o↔oLoF s g s.ts.length≤o∧o≤oHiF s g s.ts.length:=by
  have h:=o_iff s g o s.ts.length
  constructor
  · rintro⟨a,_,b⟩;exact h.2 ⟨b,a⟩
  · intro a;have b:=h.1 a;exact⟨b.2,hg,b.1⟩
set_option maxHeartbeats 1000000 in
theorem c_r4tunes (H:Heap) (s:Sc) (tid toff:Nat) (ex:Bool) (ht:rd H tid toff (s.ts.length * 2)=some (s.ts.flatMap Ti.av)) (hs:s.ok) :
    ACalls Try.prog F.ref04_tunes [.agg (s.av tid toff ex)] H (fun v h'=>∃ G,h'=H++G∧AAt h' 3 v (tunL s (TG s s.gs)) (TG s s.gs).length):=by
  have htl:=rd_lt ht
  have hb:=hs.b
  simp only [Sc.built] at hb
  have hgs:=gs_eq hs
  have hos:(s.os:Int)=s.oHi-s.oLo+1:=by simp only [Sc.os];omega
  have hav:s.av tid toff ex=[.int .i64 s.id,.int .i64 s.step,.int .i64 s.gLo,.int .i64 s.gHi,.int .i64 s.oLo,.int .i64 s.oHi,.slice tid toff s.ts.length 2 ex]:=rfl
  have kU:=fun G g o b hg ho hb=>c_r4True (H++G) s tid toff ex (by rw [rd_old _ htl];exact ht) hs g o hg ho (b:=b) hb
  simp only [Sc.av] at kU
  refine acalls_of ok_ref04_tunes rfl fun hcl=>?_
  unfold ac_ref04_tunes zo
  simp only [argsT,Nat.zero_add,Nat.reduceAdd]
  simp only [hav]
  repeat (first|(with_reducible first|apply X1|apply X2|apply X6|apply X8)|((with_reducible apply e_end);(simp;exact Rz))|((with_reducible apply O1);rfl;(simp (disch:=omega);exact Rz);exact Rz;(focus (first|(simp;done)|omega|(simp;omega)))))
  refine e_loop (ι:={ x:Nat × AV × Heap // x.1≤s.gs∧AAt (H++.cells (s.av tid toff ex) true :: x.2.2) 3 x.2.1 (tunL s (TG s x.1)) (TG s x.1).length∧∀ q,isId x.2.1 q→H.length+1≤q })
    (fun x=>[(1,.ptr H.length 0),(3,x.1.2.1),(4,.int .i64 (s.gLo+x.1.1))]) (fun x=>H++.cells (s.av tid toff ex) true :: x.1.2.2) (fun x=>s.gs-x.1.1) ⟨(0,.nilslice,[]),by simp,AAt.nil _ _,fun q hq=>hq.elim⟩ ?_ ?_
  · exact .inl (by simp [hav])
  · rintro⟨⟨k,v,G⟩,hk,hA,hi⟩
    dsimp only at hk hA hi ⊢
    have sv:∀ m,v.sc (H.length+(G.length+(m+1)))=true:=fun m=>hA.l.sc (by simp)
    have sv0:=sv 0
    rw [Nat.zero_add] at sv0
    simp only [hav] at hA ⊢
    by_cases hlt:k<s.gs
    · have hlt2:s.gLo+k≤s.gHi:=by omega
      repeat (first|(with_reducible first|apply X1|apply X2|apply X5|apply X6|apply X8)|((with_reducible apply e_end);(simp;exact Rz))|((first|((with_reducible apply O1);rfl)|((with_reducible apply O2);rfl));(simp (disch:=omega) [hlt2];exact Rz);exact Rz;(focus (first|(simp;done)|omega|(simp;omega))))|((with_reducible apply Z9);(simp (disch:=omega) [hlt2];exact Rz)))
      refine e_loop (ι:={ z:Nat × Bool × Int × Int // z.1≤s.os∧(z.2.1=true↔oLoF s (s.gLo+k) s.ts.length≤oHiF s (s.gLo+k) s.ts.length∧oLoF s (s.gLo+k) s.ts.length<s.oLo+z.1)∧(z.2.1=true→z.2.2.1=oLoF s (s.gLo+k) s.ts.length∧z.2.2.2=min (s.oLo+z.1-1) (oHiF s (s.gLo+k) s.ts.length)) })
        (fun z=>[(1,.ptr H.length 0),(3,v),(4,.int .i64 (s.gLo+k)),(5,.bool z.1.2.1),(6,.ptr (H.length+(G.length+1)) 0),(7,.int .i64 (s.oLo+z.1.1))])
        (fun z=>H++.cells [.int .i64 s.id,.int .i64 s.step,.int .i64 s.gLo,.int .i64 s.gHi,.int .i64 s.oLo,.int .i64 s.oHi,.slice tid toff s.ts.length 2 ex] true :: (G++[.cells [.int .i64 (s.gLo+k),.int .i64 z.1.2.2.1,.int .i64 z.1.2.2.2] true])) (fun z=>s.os-z.1.1) ⟨(0,false,0,0),by
          have:=o_in s (s.gLo+k) s.ts.length
          simp;omega⟩ ?_ ?_
      · exact .inl (by simp)
      · rintro⟨⟨j,so,lo,hi2⟩,hj,h1,h2⟩
        dsimp only at hj h1 h2 ⊢
        by_cases hjl:j<s.os
        · have hjl2:s.oLo+j≤s.oHi:=by omega
          have hgk:s.gLo≤s.gLo+k∧s.gLo+k≤s.gHi:=by omega
          obtain⟨bt,hbt⟩:=bof (s.tru (s.gLo+k) (s.oLo+j))
          have htr:=tru_in (s:=s) (g:=s.gLo+k) (o:=s.oLo+j) hgk
          repeat (first|(with_reducible first|apply X1|apply X2|apply X5|apply X6|apply X8)|((with_reducible apply e_end);(simp;exact Rz))|((with_reducible apply O1);rfl;(simp (disch:=omega) [hjl2];exact Rz);exact Rz;(focus (first|(simp;done)|omega|(simp;omega))))|((with_reducible apply Z9);(simp (disch:=omega) [hjl2];exact Rz)))
          (with_reducible apply e_call);(simp;exact Rz);exact kU _ _ _ _ (by omega) (by omega) hbt
          rintro _ _ ⟨rfl,rfl⟩
          cases bt with
          | false =>
            have hno:¬ (oLoF s (s.gLo+k) s.ts.length≤s.oLo+j∧s.oLo+j≤oHiF s (s.gLo+k) s.ts.length):=fun h=>absurd (hbt.2 (htr.2 h)) (by decide)
            repeat (first|(with_reducible first|apply X2|apply X4|apply X8|apply Y1|apply Y4)|((with_reducible apply e_end);(simp;exact Rz))|((with_reducible apply O1);rfl;(simp (disch:=omega);exact Rz);exact Rz;(focus (first|(simp;done)|omega|(simp;omega))))|((with_reducible apply Z9);(simp (disch:=omega);exact Rz)))
            refine q_again ⟨(j+1,so,lo,hi2),hjl,?_,?_⟩ (by dsimp only;omega) (.inl (by simp;omega))
            · dsimp only
              rw [h1]
              constructor <;> intro h <;> omega
            · dsimp only
              intro h
              have:=h2 h
              have:=h1.1 h
              omega
          | true =>
            have hyes:=htr.1 (hbt.1 rfl)
            cases so with
            | false =>
              have hlo:¬ oLoF s (s.gLo+k) s.ts.length<s.oLo+j:=fun h=>by have:=h1.2 ⟨by omega,h⟩;cases this
              repeat (first|(with_reducible first|apply X1|apply X2|apply X5|apply X8|apply Y2)|((with_reducible apply e_end);(simp;exact Rz))|((first|((with_reducible apply O1);rfl)|((with_reducible apply O2);rfl));(simp (disch:=omega);exact Rz);exact Rz;(focus (first|(simp;done)|omega|(simp;omega))))|((with_reducible apply Z9);(simp (disch:=omega);exact Rz))|((with_reducible apply W3);(simp (disch:=omega);exact Rz)))
              refine q_again ⟨(j+1,true,s.oLo+j,s.oLo+j),hjl,?_,?_⟩ (by dsimp only;omega) (.inl (by simp;omega))
              · dsimp only
                simp;omega
              · dsimp only
                intro h
                omega
            | true =>
              have:=h2 rfl
              repeat (first|(with_reducible first|apply X1|apply X2|apply X5|apply X8|apply Y2)|((with_reducible apply e_end);(simp;exact Rz))|((first|((with_reducible apply O1);rfl)|((with_reducible apply O2);rfl));(simp (disch:=omega);exact Rz);exact Rz;(focus (first|(simp;done)|omega|(simp;omega))))|((with_reducible apply W3);(simp (disch:=omega);exact Rz)))
              refine q_again ⟨(j+1,true,lo,s.oLo+j),hjl,?_,?_⟩ (by dsimp only;omega) (.inl (by simp;omega))
              · dsimp only
                simp;omega
              · dsimp only
                intro h
                omega
        · have hjl2:¬ s.oLo+j≤s.oHi:=by omega
          obtain rfl:j=s.os:=by omega
          have oin:=o_in s (s.gLo+k) s.ts.length
          have e1:=TG_succ s k
          have gl:=TG_len s k
          cases so with
          | false =>
            have hno:tunB s (s.gLo+k)=false:=by
              simp only [tunB,decide_eq_false_iff_not]
              intro h
              have:=h1.2 ⟨h,by omega⟩
              cases this
            rw [hno] at e1
            simp only [Bool.false_eq_true,if_false] at e1
            repeat (first|(with_reducible first|apply X1|apply X2|apply X4|apply X5|apply X8|apply Y1|apply Y2|apply Y4|apply Y6)|((with_reducible apply e_end);(simp;exact Rz))|((with_reducible apply O1);rfl;(simp (disch:=omega) [hjl2];exact Rz);exact Rz;(focus (first|(simp;done)|omega|(simp;omega))))|((with_reducible apply W3);(simp (disch:=omega) [hjl2];exact Rz)))
            refine q_again ⟨(k+1,v,G++[.cells [.int .i64 (s.gLo+k),.int .i64 lo,.int .i64 hi2] true]),hlt,?_,hi⟩ (by dsimp only;omega) (.inl (by simp;omega))
            dsimp only
            rw [e1]
            have:=hA.app [.cells [.int .i64 (s.gLo+k),.int .i64 lo,.int .i64 hi2] true]
            simpa [hav] using this
          | true =>
            obtain⟨rfl,rfl⟩:=h2 rfl
            have hyes:tunB s (s.gLo+k)=true:=by simp only [tunB,decide_eq_true_eq];exact (h1.1 rfl).1
            rw [if_pos hyes] at e1
            have hm:min (s.oLo+(s.os:Int)-1) (oHiF s (s.gLo+k) s.ts.length)=oHiF s (s.gLo+k) s.ts.length:=by omega
            rw [hm]
            repeat (first|(with_reducible first|apply X1|apply X2|apply X4|apply X8|apply Y1|apply Y4|apply Y6)|((with_reducible apply e_end);(simp;exact Rz))|((with_reducible apply O1);rfl;(simp (disch:=omega) [hjl2];exact Rz);exact Rz;(focus (first|(simp;done)|omega|(simp;omega))))|((with_reducible apply Z9);(simp (disch:=omega) [hjl2];exact Rz))|((with_reducible apply W3);(simp (disch:=omega) [hjl2];exact Rz)))
            refine e_appA (A:=H++[.cells [.int .i64 s.id,.int .i64 s.step,.int .i64 s.gLo,.int .i64 s.gHi,.int .i64 s.oLo,.int .i64 s.oHi,.slice tid toff s.ts.length 2 ex] true]) (G:=G++[.cells [.int .i64 (s.gLo+k),.int .i64 (oLoF s (s.gLo+k) s.ts.length),.int .i64 (oHiF s (s.gLo+k) s.ts.length)] true,.cells [.int .i64 (s.gLo+k),.int .i64 (oLoF s (s.gLo+k) s.ts.length),.int .i64 (oHiF s (s.gLo+k) s.ts.length)] true]) (cs:=tunL s (TG s k)) (n:=(TG s k).length) (m:=1) (new:=tunV s k) (by simp [tunV]) (by simp;exact Rz) (by simp;exact Rz) ?_ (fun q hq=>by have:=hi q hq;simp;omega) (by simp [Nat.add_assoc,tunV]) (by simp [tunV]) (by omega) (by omega) ?_
            · have:=hA.app [.cells [.int .i64 (s.gLo+k),.int .i64 (oLoF s (s.gLo+k) s.ts.length),.int .i64 (oHiF s (s.gLo+k) s.ts.length)] true,.cells [.int .i64 (s.gLo+k),.int .i64 (oLoF s (s.gLo+k) s.ts.length),.int .i64 (oHiF s (s.gLo+k) s.ts.length)] true]
              simpa using this
            intro G2 v2 e3 e4 _ _ _
            simp only [List.append_assoc,List.cons_append,List.nil_append] at e3 e4 ⊢
            have e5:∀ q,isId v2 q→H.length+1≤q:=fun q hq=>by have:=e4 q hq;simpa using this
            repeat (first|(with_reducible first|apply X2|apply X8|apply Y2)|((with_reducible apply e_end);(simp;exact Rz))|((with_reducible apply O1);rfl;(simp (disch:=omega);exact Rz);exact Rz;(focus (first|(simp;done)|omega|(simp;omega)))))
            refine q_again ⟨(k+1,v2,G2),hlt,?_,e5⟩ (by dsimp only;omega) (.inl (by simp;omega))
            dsimp only
            rw [e1,tunL_app,List.length_append]
            simpa [hav] using e3
    · have hlt2:¬ s.gLo+k≤s.gHi:=by omega
      obtain rfl:k=s.gs:=by omega
      repeat (first|(with_reducible first|apply X1|apply X2|apply X3|apply X4|apply X8|apply Y1|apply Y4|apply Y6)|((with_reducible apply e_end);(simp;exact Rz))|((with_reducible apply O1);rfl;(simp (disch:=omega) [hlt2];exact Rz);exact Rz;(focus (first|(simp;done)|omega|(simp;omega))))|((with_reducible apply W3);(simp (disch:=omega) [hlt2];exact Rz)))
      exact q_stay (.inr rfl) (by simp;exact Rz) ⟨_,rfl,hA⟩
end Go.Proofs
