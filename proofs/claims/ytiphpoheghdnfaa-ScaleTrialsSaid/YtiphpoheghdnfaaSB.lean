/- Several texts as one. -/
import Derived.Test.YtiphpoheghdnfaaSA
/- Scale: what the reference and the law say of a scale. -/
namespace Go.Proofs
open Go.Abs
attribute [local simp] AOp.den AOpd.ev lk cellsOf rd_new rd_new0 rd_zero rd_succ wr_new wr_new0 wr_zero wr_succ splice fillA binA scal sliceCells List.length_append argsT AV.sc scL AObj.sc resV getAll AR.get AOp.slots opdSlots opdsSlots partSlots eqAt at_new0 at_new set_new0 set_new wrap64
set_option linter.unusedSimpArgs false
set_option linter.unusedVariables false
theorem c_r4within (H:Heap) (n lo hi:Int) {b:Bool} (hb:b=true↔lo≤n∧n≤hi):ACalls Try.prog F.ref04_within [.int .i64 n,.int .i64 lo,.int .i64 hi] H (fun v h'=>v=.bool b∧h'=H):=by
  have hn:¬ (lo≤n∧n≤hi)→AV.bool false=.bool b:=fun h=>by rw [AV.bool.injEq];cases b;rfl;exact absurd (hb.1 rfl) h
  refine acalls_of ok_ref04_within rfl fun hcl=>?_
  unfold ac_ref04_within zo
  simp only [argsT,Nat.zero_add,Nat.reduceAdd]
  by_cases h1:lo≤n
  · by_cases h2:n≤hi
    · repeat (first|(with_reducible first|apply X1|apply X2|apply X3|apply X8)|((with_reducible apply e_end);(simp;exact Rz))|((with_reducible apply O1);rfl;(simp (disch:=omega) [h1,h2];exact Rz);exact Rz;(focus (first|(simp;done)|omega|(simp;omega))))|((with_reducible apply Z7);(simp (disch:=omega) [h1,h2];exact Rz)))
      refine q_drop0 (.inr rfl) (by simp;exact Rz) (by simp) ⟨by rw [AV.bool.injEq];exact (hb.2 ⟨h1,h2⟩).symm,rfl⟩
    · repeat (first|(with_reducible first|apply X1|apply X2|apply X3|apply X8)|((with_reducible apply e_end);(simp;exact Rz))|((with_reducible apply O1);rfl;(simp (disch:=omega) [h1,h2];exact Rz);exact Rz;(focus (first|(simp;done)|omega|(simp;omega))))|((with_reducible apply Z7);(simp (disch:=omega) [h1,h2];exact Rz)))
      refine q_drop0 (.inr rfl) (by simp;exact Rz) (by simp) ⟨hn (fun h=>h2 h.2),rfl⟩
  · repeat (first|(with_reducible first|apply X1|apply X2|apply X3|apply X8)|((with_reducible apply e_end);(simp;exact Rz))|((with_reducible apply O1);rfl;(simp (disch:=omega) [h1];exact Rz);exact Rz;(focus (first|(simp;done)|omega|(simp;omega))))|((with_reducible apply Z1);(simp (disch:=omega) [h1];exact Rz)))
    refine q_drop0 (.inr rfl) (by simp;exact Rz) (by simp) ⟨hn (fun h=>h1 h.1),rfl⟩
theorem c_r4spanned (H:Heap) (a c lo hi:Int) {b:Bool} (hb:b=true↔a≤c∧lo≤a∧c≤hi):ACalls Try.prog F.ref04_spanned [.agg [.int .i64 a,.int .i64 c],.int .i64 lo,.int .i64 hi] H (fun v h'=>v=.bool b∧h'=H):=by
  have hn:¬ (a≤c∧lo≤a∧c≤hi)→AV.bool false=.bool b:=fun h=>by rw [AV.bool.injEq];cases b;rfl;exact absurd (hb.1 rfl) h
  refine acalls_of ok_ref04_spanned rfl fun hcl=>?_
  unfold ac_ref04_spanned zo
  simp only [argsT,Nat.zero_add,Nat.reduceAdd]
  by_cases h1:lo≤a
  · by_cases h2:a≤c
    · by_cases h3:c≤hi
      · repeat (first|(with_reducible first|apply X1|apply X2|apply X3|apply X8)|((with_reducible apply e_end);(simp;exact Rz))|((with_reducible apply O1);rfl;(simp (disch:=omega) [h1,h2,h3];exact Rz);exact Rz;(focus (first|(simp;done)|omega|(simp;omega))))|((with_reducible apply Z7);(simp (disch:=omega) [h1,h2,h3];exact Rz)))
        refine q_drop (.inr rfl) (by simp;exact Rz) (by simp) ⟨by rw [AV.bool.injEq];exact (hb.2 ⟨h2,h1,h3⟩).symm,rfl⟩
      · repeat (first|(with_reducible first|apply X1|apply X2|apply X3|apply X8)|((with_reducible apply e_end);(simp;exact Rz))|((with_reducible apply O1);rfl;(simp (disch:=omega) [h1,h2,h3];exact Rz);exact Rz;(focus (first|(simp;done)|omega|(simp;omega))))|((with_reducible apply Z7);(simp (disch:=omega) [h1,h2,h3];exact Rz)))
        refine q_drop (.inr rfl) (by simp;exact Rz) (by simp) ⟨hn (fun h=>h3 h.2.2),rfl⟩
    · repeat (first|(with_reducible first|apply X1|apply X2|apply X3|apply X8)|((with_reducible apply e_end);(simp;exact Rz))|((with_reducible apply O1);rfl;(simp (disch:=omega) [h1,h2];exact Rz);exact Rz;(focus (first|(simp;done)|omega|(simp;omega))))|((with_reducible apply Z7);(simp (disch:=omega) [h1,h2];exact Rz))|((with_reducible apply Z1);(simp (disch:=omega) [h1,h2];exact Rz)))
      refine q_drop (.inr rfl) (by simp;exact Rz) (by simp) ⟨hn (fun h=>h2 h.1),rfl⟩
  · repeat (first|(with_reducible first|apply X1|apply X2|apply X3|apply X8)|((with_reducible apply e_end);(simp;exact Rz))|((with_reducible apply O1);rfl;(simp (disch:=omega) [h1];exact Rz);exact Rz;(focus (first|(simp;done)|omega|(simp;omega))))|((with_reducible apply Z1);(simp (disch:=omega) [h1];exact Rz)))
    refine q_drop (.inr rfl) (by simp;exact Rz) (by simp) ⟨hn (fun h=>h1 h.2.1),rfl⟩
theorem c_r4shown (H:Heap) (s:Sc) (n:Int) (hs:1≤s.step∧s.step≤500) {b:Bool} (hb:b=true↔s.can n):ACalls Try.prog F.ref04_shown [.int .i64 n,.int .i64 s.step] H (fun v h'=>v=.bool b∧h'=H):=by
  have h0:¬ s.step=0:=by omega
  obtain⟨b1,h1⟩:=bof (-2000000≤n∧n≤2000000)
  refine acalls_of ok_ref04_shown rfl fun hcl=>?_
  unfold ac_ref04_shown zo
  simp only [argsT,Nat.zero_add,Nat.reduceAdd]
  repeat (first|(with_reducible first|apply X1|apply X2|apply X8)|((with_reducible apply e_end);(simp;exact Rz))|((with_reducible apply O1);rfl;(simp (disch:=omega);exact Rz);exact Rz;(focus (first|(simp;done)|omega|(simp;omega)))))
  (with_reducible apply e_call);(simp;exact Rz);exact c_r4within _ _ _ _ h1
  rintro _ _ ⟨rfl,rfl⟩
  cases b1 with
  | false =>
    repeat (first|(with_reducible first|apply X3|apply X8)|((with_reducible apply e_end);(simp;exact Rz))|((with_reducible apply O1);rfl;(simp (disch:=omega);exact Rz);exact Rz;(focus (first|(simp;done)|omega|(simp;omega))))|((with_reducible apply Z1);(simp (disch:=omega);exact Rz)))
    refine q_drop0 (.inr rfl) (by simp;exact Rz) (by simp) ⟨by rw [AV.bool.injEq];cases b;rfl;exact absurd (h1.2 (hb.1 rfl).2) (by decide),rfl⟩
  | true =>
    by_cases hm:n.tmod s.step=0
    · repeat (first|(with_reducible first|apply X3|apply X8)|((with_reducible apply e_end);(simp;exact Rz))|((with_reducible apply O1);rfl;(simp (disch:=omega) [h0,hm];exact Rz);exact Rz;(focus (first|(simp;done)|omega|(simp;omega))))|((with_reducible apply Z7);(simp (disch:=omega) [h0,hm];exact Rz)))
      refine q_drop0 (.inr rfl) (by simp;exact Rz) (by simp) ⟨by rw [AV.bool.injEq];exact (hb.2 ⟨hm,h1.1 rfl⟩).symm,rfl⟩
    · repeat (first|(with_reducible first|apply X3|apply X8)|((with_reducible apply e_end);(simp;exact Rz))|((with_reducible apply O1);rfl;(simp (disch:=omega) [h0,hm];exact Rz);exact Rz;(focus (first|(simp;done)|omega|(simp;omega))))|((with_reducible apply Z7);(simp (disch:=omega) [h0,hm];exact Rz)))
      refine q_drop0 (.inr rfl) (by simp;exact Rz) (by simp) ⟨by rw [AV.bool.injEq];cases b;rfl;exact absurd (hb.1 rfl).1 hm,rfl⟩
set_option maxHeartbeats 2000000 in
theorem c_r4Scale (H:Heap) (s:Sc) (tid toff:Nat) (ex:Bool) (ht:rd H tid toff (s.ts.length * 2)=some (s.ts.flatMap Ti.av)) (hn:(s.ts.length:Int)<1000000) {b:Bool} (hb:b=true↔s.ok) :
    ACalls Try.prog F.ref04_Scale [.agg (s.av tid toff ex)] H (fun v h'=>v=.bool b∧h'=H):=by
  have htl:=rd_lt ht
  have hno:¬ s.ok→AV.bool false=.bool b:=fun h=>by rw [AV.bool.injEq];cases b;rfl;exact absurd (hb.1 rfl) h
  obtain⟨b1,h1⟩:=bof (0≤s.id∧s.id≤9999)
  obtain⟨b2,h2⟩:=bof (1≤s.step∧s.step≤500)
  obtain⟨b3,h3⟩:=bof (s.gLo≤s.gHi∧-10≤s.gLo∧s.gHi≤10)
  obtain⟨b4,h4⟩:=bof (s.oLo≤s.oHi∧-100≤s.oLo∧s.oHi≤100)
  simp only [Sc.av]
  refine acalls_of ok_ref04_Scale rfl fun hcl=>?_
  unfold ac_ref04_Scale zo
  simp only [argsT,Nat.zero_add,Nat.reduceAdd]
  repeat (first|(with_reducible first|apply X1|apply X2|apply X8)|((with_reducible apply e_end);(simp;exact Rz))|((with_reducible apply O1);rfl;(simp (disch:=omega);exact Rz);exact Rz;(focus (first|(simp;done)|omega|(simp;omega)))))
  (with_reducible apply e_call);(simp;exact Rz);exact c_r4within _ _ _ _ h1
  rintro _ _ ⟨rfl,rfl⟩
  cases b1 with
  | false =>
    repeat (first|(with_reducible first|apply X1|apply X2|apply X3|apply X8|apply X9)|((with_reducible apply e_end);(simp;exact Rz))|((with_reducible apply O1);rfl;(simp (disch:=omega);exact Rz);exact Rz;(focus (first|(simp;done)|omega|(simp;omega))))|((with_reducible apply Z9);(simp (disch:=omega);exact Rz))|((with_reducible apply Z2);(simp (disch:=omega);exact Rz)))
    refine q_drop (.inr rfl) (by simp;exact Rz) (by simp) ⟨hno fun h=>absurd (h1.2 h.b.1) (by decide),rfl⟩
  | true =>
  repeat (first|((with_reducible apply O1);rfl;(simp (disch:=omega);exact Rz);exact Rz;(focus (first|(simp;done)|omega|(simp;omega))))|((with_reducible apply Z7);(simp (disch:=omega);exact Rz)))
  (with_reducible apply e_call);(simp;exact Rz);exact c_r4within _ _ _ _ h2
  rintro _ _ ⟨rfl,rfl⟩
  cases b2 with
  | false =>
    repeat (first|(with_reducible first|apply X1|apply X2|apply X3|apply X8|apply X9)|((with_reducible apply e_end);(simp;exact Rz))|((with_reducible apply O1);rfl;(simp (disch:=omega);exact Rz);exact Rz;(focus (first|(simp;done)|omega|(simp;omega))))|((with_reducible first|apply Z7|apply Z9);(simp (disch:=omega);exact Rz))|((with_reducible apply Z2);(simp (disch:=omega);exact Rz)))
    refine q_drop (.inr rfl) (by simp;exact Rz) (by simp) ⟨hno fun h=>absurd (h2.2 h.b.2.1) (by decide),rfl⟩
  | true =>
  repeat (first|((with_reducible apply O1);rfl;(simp (disch:=omega);exact Rz);exact Rz;(focus (first|(simp;done)|omega|(simp;omega))))|((with_reducible apply Z7);(simp (disch:=omega);exact Rz)))
  (with_reducible apply e_call);(simp;exact Rz);exact c_r4spanned _ _ _ _ _ h3
  rintro _ _ ⟨rfl,rfl⟩
  cases b3 with
  | false =>
    repeat (first|(with_reducible first|apply X1|apply X2|apply X3|apply X8|apply X9)|((with_reducible apply e_end);(simp;exact Rz))|((with_reducible apply O1);rfl;(simp (disch:=omega);exact Rz);exact Rz;(focus (first|(simp;done)|omega|(simp;omega))))|((with_reducible first|apply Z7|apply Z9);(simp (disch:=omega);exact Rz))|((with_reducible apply Z2);(simp (disch:=omega);exact Rz)))
    refine q_drop (.inr rfl) (by simp;exact Rz) (by simp) ⟨hno fun h=>absurd (h3.2 h.b.2.2.1) (by decide),rfl⟩
  | true =>
  repeat (first|((with_reducible apply O1);rfl;(simp (disch:=omega);exact Rz);exact Rz;(focus (first|(simp;done)|omega|(simp;omega))))|((with_reducible apply Z7);(simp (disch:=omega);exact Rz)))
  (with_reducible apply e_call);(simp;exact Rz);exact c_r4spanned _ _ _ _ _ h4
  rintro _ _ ⟨rfl,rfl⟩
  cases b4 with
  | false =>
    repeat (first|(with_reducible first|apply X1|apply X2|apply X3|apply X8|apply X9)|((with_reducible apply e_end);(simp;exact Rz))|((with_reducible apply O1);rfl;(simp (disch:=omega);exact Rz);exact Rz;(focus (first|(simp;done)|omega|(simp;omega))))|((with_reducible first|apply Z7|apply Z9);(simp (disch:=omega);exact Rz))|((with_reducible apply Z2);(simp (disch:=omega);exact Rz)))
    refine q_drop (.inr rfl) (by simp;exact Rz) (by simp) ⟨hno fun h=>absurd (h4.2 h.b.2.2.2) (by decide),rfl⟩
  | true =>
  have hbl:s.built:=⟨h1.1 rfl,h2.1 rfl,h3.1 rfl,h4.1 rfl⟩
  by_cases h6:6<s.ts.length
  · have h62:(6:Int)<s.ts.length:=by omega
    repeat (first|(with_reducible first|apply X1|apply X2|apply X3|apply X8|apply X9)|((with_reducible apply e_end);(simp;exact Rz))|((with_reducible apply O1);rfl;(simp (disch:=omega) [h6,h62];exact Rz);exact Rz;(focus (first|(simp;done)|omega|(simp;omega))))|((with_reducible first|apply Z7|apply Z9);(simp (disch:=omega) [h6,h62];exact Rz)))
    refine q_drop (.inr rfl) (by simp;exact Rz) (by simp) ⟨hno fun h=>by have:=h.len;omega,rfl⟩
  have h62:¬ (6:Int)<s.ts.length:=by omega
  repeat (first|(with_reducible first|apply X1|apply X2|apply X5|apply X6|apply X8)|((with_reducible apply e_end);(simp;exact Rz))|((with_reducible apply O1);rfl;(simp (disch:=omega) [h6,h62];exact Rz);exact Rz;(focus (first|(simp;done)|omega|(simp;omega))))|((with_reducible apply Z7);(simp (disch:=omega) [h6,h62];exact Rz))|((with_reducible apply W3);(simp (disch:=omega) [h6,h62];exact Rz)))
  refine e_loop (ι:={ i:Nat // i≤s.ts.length∧∀ j,j<i→s.tri (s.t j) })
    (fun i=>[(1,.ptr H.length 0),(3,.int .i64 i.1)]) (fun _=>H++[.cells [.int .i64 s.id,.int .i64 s.step,.int .i64 s.gLo,.int .i64 s.gHi,.int .i64 s.oLo,.int .i64 s.oHi,.slice tid toff s.ts.length 2 ex] true]) (fun i=>s.ts.length-i.1) ⟨0,by simp⟩ ?_ ?_
  · exact .inl (by simp)
  · rintro⟨i,hi,hok⟩
    dsimp only
    by_cases hlt:i<s.ts.length
    · have hlt2:(i:Int)<s.ts.length:=by omega
      have hx:=rd_row Ti.av_length ht hlt
      rw [← Sc.t_eq hlt] at hx
      simp only [Ti.av] at hx
      have hx0:rd H tid (toff+i * 2) 1=some [.int .i64 (s.t i).w]:=by have:=rd_sub' hx 0 1 (by omega);simpa using this
      have hx1:rd H tid (toff+i * 2+1) 1=some [.int .i64 (s.t i).n]:=by have:=rd_sub' hx 1 1 (by omega);simpa using this
      obtain⟨c1,g1⟩:=bof (0≤(s.t i).w∧(s.t i).w≤1000000)
      obtain⟨c2,g2⟩:=bof (s.can (s.t i).n)
      repeat (first|(with_reducible first|apply X1|apply X2|apply X5|apply X6|apply X8|apply Y9)|((with_reducible apply e_end);(simp;exact Rz))|((first|((with_reducible apply O1);rfl)|((with_reducible apply P1);rfl)|((with_reducible apply P2);rfl));(simp (disch:=omega) [hlt,hlt2,rd_old _ htl,hx0,hx1];exact Rz);exact Rz;(focus (first|(simp;done)|omega|(simp;omega))))|((with_reducible apply Z9);(simp (disch:=omega) [hlt,hlt2,rd_old _ htl,hx0,hx1];exact Rz)))
      (with_reducible apply d_call);(simp;exact Rz);exact c_r4within _ _ _ _ g1;(focus (first|(simp;done)|(simp;omega)))
      cases c1 with
      | false =>
        repeat (first|(with_reducible first|apply X1|apply X2|apply X3|apply X8|apply X9|apply Y3|apply Y5)|((with_reducible first|apply e_end|apply d_end);(simp;exact Rz))|((first|((with_reducible apply O1);rfl)|((with_reducible apply P1);rfl));(simp (disch:=omega);exact Rz);exact Rz;(focus (first|(simp;done)|omega|(simp;omega))))|((with_reducible apply Z9);(simp (disch:=omega);exact Rz))|((with_reducible apply Z6);(simp (disch:=omega);exact Rz)))
        refine q_drop (.inr rfl) (by simp;exact Rz) (by simp) ⟨hno fun h=>absurd (g1.2 (h.tr i hlt).1) (by decide),rfl⟩
      | true =>
        repeat (first|((first|((with_reducible apply P1);rfl)|((with_reducible apply P2);rfl));(simp (disch:=omega) [hlt,hlt2,rd_old _ htl,hx0,hx1];exact Rz);exact Rz;(focus (first|(simp;done)|omega|(simp;omega))))|((with_reducible apply Z8);(simp (disch:=omega) [hlt,hlt2,rd_old _ htl,hx0,hx1];exact Rz)))
        (with_reducible apply d_call);(simp;exact Rz);exact c_r4shown _ s _ hbl.2.1 g2;(focus (first|(simp;done)|(simp;omega)))
        cases c2 with
        | false =>
          repeat (first|(with_reducible first|apply X1|apply X2|apply X3|apply X8|apply X9|apply Y3|apply Y5)|((with_reducible first|apply e_end|apply d_end);(simp;exact Rz))|((first|((with_reducible apply O1);rfl)|((with_reducible apply P1);rfl));(simp (disch:=omega);exact Rz);exact Rz;(focus (first|(simp;done)|omega|(simp;omega))))|((with_reducible first|apply Z8|apply Z9);(simp (disch:=omega);exact Rz)))
          refine q_drop (.inr rfl) (by simp;exact Rz) (by simp) ⟨hno fun h=>absurd (g2.2 (h.tr i hlt).2) (by decide),rfl⟩
        | true =>
          repeat (first|(with_reducible first|apply X2|apply X5|apply X8|apply Y2)|((with_reducible first|apply e_end|apply d_end);(simp;exact Rz))|((first|((with_reducible apply O1);rfl)|((with_reducible apply P1);rfl));(simp (disch:=omega);exact Rz);exact Rz;(focus (first|(simp;done)|omega|(simp;omega))))|((with_reducible apply Z8);(simp (disch:=omega);exact Rz))|((with_reducible apply W3);(simp (disch:=omega);exact Rz)))
          refine q_again ⟨i+1,hlt,?_⟩ (by dsimp only;omega) (.inl (by simp))
          intro j hj
          rcases Nat.lt_or_ge j i with h|h
          · exact hok j h
          · obtain rfl:j=i:=by omega
            exact⟨g1.1 rfl,g2.1 rfl⟩
    · have hlt2:¬ (i:Int)<s.ts.length:=by omega
      obtain rfl:i=s.ts.length:=by omega
      repeat (first|(with_reducible first|apply X1|apply X2|apply X3|apply X4|apply X8|apply Y1|apply Y4|apply Y6)|((with_reducible apply e_end);(simp;exact Rz))|((with_reducible apply O1);rfl;(simp (disch:=omega) [hlt2];exact Rz);exact Rz;(focus (first|(simp;done)|omega|(simp;omega))))|((with_reducible apply W3);(simp (disch:=omega) [hlt2];exact Rz)))
      refine q_drop (.inr rfl) (by simp;exact Rz) (by simp) ⟨by rw [AV.bool.injEq];exact (hb.2 ⟨hbl,by omega,hok⟩).symm,rfl⟩
def Sc.shows (s:Sc) (g o w n:Int):Prop:=1000 * n≤w * (1000+g)+1000 * o∧w * (1000+g)+1000 * o<1000 * (n+s.step)
theorem shows_iff (s:Sc) (g o w n:Int):s.shows g o w n↔n-gr g w≤o∧o≤n-gr g w+s.step-1:=by
  simp only [Sc.shows,gr]
  omega
def Sc.tru (s:Sc) (g o:Int):Prop:=(∀ i,i<s.ts.length→s.shows g o (s.t i).w (s.t i).n)∧(s.gLo≤g∧g≤s.gHi)∧(s.oLo≤o∧o≤s.oHi)
theorem o_iff (s:Sc) (g o:Int):∀ j,(oLoF s g j≤o∧o≤oHiF s g j)↔(s.oLo≤o∧o≤s.oHi)∧∀ i,i<j→s.shows g o (s.t i).w (s.t i).n
  | 0=>by simp [oLoF,oHiF]
  | j+1=>by
    have ih:=o_iff s g o j
    have hs:=shows_iff s g o (s.t j).w (s.t j).n
    constructor
    · intro h
      simp only [oLoF,oHiF] at h
      have h1:=ih.1 ⟨by omega,by omega⟩
      refine⟨h1.1,fun i hi=>?_⟩
      rcases Nat.lt_or_ge i j with h2|h2
      · exact h1.2 i h2
      · obtain rfl:i=j:=by omega
        exact hs.2 ⟨by omega,by omega⟩
    · rintro⟨h1,h2⟩
      have h3:=ih.2 ⟨h1,fun i hi=>h2 i (by omega)⟩
      have h4:=hs.1 (h2 j (by omega))
      simp only [oLoF,oHiF]
      omega
theorem c_r4Shows (H:Heap) (s:Sc) (tid toff:Nat) (ex:Bool) (ht:tid<H.length) (hs:1≤s.step∧s.step≤500) (g o w n:Int) (hg:-10≤g∧g≤10) (ho:-4000000≤o∧o≤4000000) (hw:0≤w∧w≤1000000) (hn:-2000000≤n∧n≤2000000) {b:Bool} (hb:b=true↔s.shows g o w n) :
    ACalls Try.prog F.ref04_Shows [.agg (s.av tid toff ex),.int .i64 g,.int .i64 o,.int .i64 w,.int .i64 n] H (fun v h'=>v=.bool b∧h'=H):=by
  have h1:=gr_bd hg hw
  have hno:¬ s.shows g o w n→AV.bool false=.bool b:=fun h=>by rw [AV.bool.injEq];cases b;rfl;exact absurd (hb.1 rfl) h
  simp only [Sc.av,Sc.shows] at *
  refine acalls_of ok_ref04_Shows rfl fun hcl=>?_
  unfold ac_ref04_Shows zo
  simp only [argsT,Nat.zero_add,Nat.reduceAdd]
  by_cases c1:1000 * n≤w * (1000+g)+1000 * o
  · by_cases c2:w * (1000+g)+1000 * o<1000 * (n+s.step)
    · repeat (first|(with_reducible first|apply X1|apply X2|apply X3|apply X8)|((with_reducible apply e_end);(simp;exact Rz))|((with_reducible apply O1);rfl;(simp (disch:=omega) [c1,c2];exact Rz);exact Rz;(focus (first|(simp;done)|omega|(simp;omega))))|((with_reducible apply Z7);(simp (disch:=omega) [c1,c2];exact Rz)))
      refine q_drop (.inr rfl) (by simp;exact Rz) (by simp) ⟨by rw [AV.bool.injEq];exact (hb.2 ⟨c1,c2⟩).symm,rfl⟩
    · repeat (first|(with_reducible first|apply X1|apply X2|apply X3|apply X8)|((with_reducible apply e_end);(simp;exact Rz))|((with_reducible apply O1);rfl;(simp (disch:=omega) [c1,c2];exact Rz);exact Rz;(focus (first|(simp;done)|omega|(simp;omega))))|((with_reducible apply Z7);(simp (disch:=omega) [c1,c2];exact Rz)))
      refine q_drop (.inr rfl) (by simp;exact Rz) (by simp) ⟨hno (fun h=>c2 h.2),rfl⟩
  · repeat (first|(with_reducible first|apply X1|apply X2|apply X3|apply X8)|((with_reducible apply e_end);(simp;exact Rz))|((with_reducible apply O1);rfl;(simp (disch:=omega) [c1];exact Rz);exact Rz;(focus (first|(simp;done)|omega|(simp;omega))))|((with_reducible apply Z1);(simp (disch:=omega) [c1];exact Rz)))
    refine q_drop (.inr rfl) (by simp;exact Rz) (by simp) ⟨hno (fun h=>c1 h.1),rfl⟩
set_option maxHeartbeats 1000000 in
theorem c_r4True (H:Heap) (s:Sc) (tid toff:Nat) (ex:Bool) (ht:rd H tid toff (s.ts.length * 2)=some (s.ts.flatMap Ti.av)) (hok:s.ok) (g o:Int) (hg:-10≤g∧g≤10) (ho:-4000000≤o∧o≤4000000) {b:Bool} (hb:b=true↔s.tru g o) :
    ACalls Try.prog F.ref04_True [.agg (s.av tid toff ex),.int .i64 g,.int .i64 o] H (fun v h'=>v=.bool b∧h'=H):=by
  have htl:=rd_lt ht
  have hbu:=hok.b
  simp only [Sc.built] at hbu
  have hl6:=hok.len
  have hno:¬ s.tru g o→AV.bool false=.bool b:=fun h=>by rw [AV.bool.injEq];cases b;rfl;exact absurd (hb.1 rfl) h
  obtain⟨b1,h1⟩:=bof (s.gLo≤g∧g≤s.gHi)
  obtain⟨b2,h2⟩:=bof (s.oLo≤o∧o≤s.oHi)
  have ks:=fun X w n hw hn (c:Bool) h=>c_r4Shows (H++X) s tid toff ex (by simp;omega) hbu.2.1 g o w n hg ho hw hn (b:=c) h
  simp only [Sc.av] at ks ⊢
  refine acalls_of ok_ref04_True rfl fun hcl=>?_
  unfold ac_ref04_True zo
  simp only [argsT,Nat.zero_add,Nat.reduceAdd]
  repeat (first|(with_reducible first|apply X1|apply X2|apply X6|apply X8)|((with_reducible apply e_end);(simp;exact Rz))|((with_reducible apply O1);rfl;(simp (disch:=omega);exact Rz);exact Rz;(focus (first|(simp;done)|omega|(simp;omega)))))
  refine e_loop (ι:={ i:Nat // i≤s.ts.length∧∀ j,j<i→s.shows g o (s.t j).w (s.t j).n })
    (fun i=>[(1,.int .i64 g),(2,.int .i64 o),(3,.ptr H.length 0),(7,.int .i64 i.1)]) (fun _=>H++[.cells [.int .i64 s.id,.int .i64 s.step,.int .i64 s.gLo,.int .i64 s.gHi,.int .i64 s.oLo,.int .i64 s.oHi,.slice tid toff s.ts.length 2 ex] true]) (fun i=>s.ts.length-i.1) ⟨0,by simp⟩ ?_ ?_
  · exact .inl (by simp)
  · rintro⟨i,hi,hsh⟩
    dsimp only
    by_cases hlt:i<s.ts.length
    · have hlt2:(i:Int)<s.ts.length:=by omega
      have hx:=rd_row Ti.av_length ht hlt
      rw [← Sc.t_eq hlt] at hx
      simp only [Ti.av] at hx
      have hx0:rd H tid (toff+i * 2) 1=some [.int .i64 (s.t i).w]:=by have:=rd_sub' hx 0 1 (by omega);simpa using this
      have hx1:rd H tid (toff+i * 2+1) 1=some [.int .i64 (s.t i).n]:=by have:=rd_sub' hx 1 1 (by omega);simpa using this
      have hti:=hok.tr i hlt
      simp only [Sc.tri,Sc.can] at hti
      obtain⟨c1,g1⟩:=bof (s.shows g o (s.t i).w (s.t i).n)
      repeat (first|(with_reducible first|apply X1|apply X2|apply X5|apply X6|apply X8|apply Y9)|((with_reducible apply e_end);(simp;exact Rz))|((first|((with_reducible apply O1);rfl)|((with_reducible apply P1);rfl)|((with_reducible apply P2);rfl));(simp (disch:=omega) [hlt,hlt2,rd_old _ htl,hx0,hx1];exact Rz);exact Rz;(focus (first|(simp;done)|omega|(simp;omega))))|((with_reducible apply Z9);(simp (disch:=omega) [hlt,hlt2,rd_old _ htl,hx0,hx1];exact Rz)))
      (with_reducible apply d_call);(simp;exact Rz);exact ks _ _ _ hti.1 hti.2.2 _ g1;(focus (first|(simp;done)|(simp;omega)))
      cases c1 with
      | false =>
        repeat (first|(with_reducible first|apply X1|apply X2|apply X3|apply X8|apply X9|apply Y3|apply Y5)|((with_reducible first|apply e_end|apply d_end);(simp;exact Rz))|((first|((with_reducible apply O1);rfl)|((with_reducible apply P1);rfl));(simp (disch:=omega);exact Rz);exact Rz;(focus (first|(simp;done)|omega|(simp;omega))))|((with_reducible apply Z9);(simp (disch:=omega);exact Rz)))
        refine q_drop (.inr rfl) (by simp;exact Rz) (by simp) ⟨hno fun h=>absurd (g1.2 (h.1 i hlt)) (by decide),rfl⟩
      | true =>
        repeat (first|(with_reducible first|apply X2|apply X5|apply X8|apply Y2)|((with_reducible first|apply e_end|apply d_end);(simp;exact Rz))|((first|((with_reducible apply O1);rfl)|((with_reducible apply P1);rfl));(simp (disch:=omega);exact Rz);exact Rz;(focus (first|(simp;done)|omega|(simp;omega))))|((with_reducible apply W3);(simp (disch:=omega);exact Rz)))
        refine q_again ⟨i+1,hlt,?_⟩ (by dsimp only;omega) (.inl (by simp))
        intro j hj
        rcases Nat.lt_or_ge j i with h|h
        · exact hsh j h
        · obtain rfl:j=i:=by omega
          exact g1.1 rfl
    · have hlt2:¬ (i:Int)<s.ts.length:=by omega
      obtain rfl:i=s.ts.length:=by omega
      repeat (first|(with_reducible first|apply X1|apply X2|apply X4|apply X8|apply Y1|apply Y4|apply Y6)|((with_reducible apply e_end);(simp;exact Rz))|((with_reducible apply O1);rfl;(simp (disch:=omega) [hlt2];exact Rz);exact Rz;(focus (first|(simp;done)|omega|(simp;omega))))|((with_reducible apply W3);(simp (disch:=omega) [hlt2];exact Rz)))
      (with_reducible apply e_call);(simp;exact Rz);exact c_r4within _ _ _ _ h1
      rintro _ _ ⟨rfl,rfl⟩
      cases b1 with
      | false =>
        repeat (first|(with_reducible first|apply X3|apply X8)|((with_reducible apply e_end);(simp;exact Rz))|((with_reducible apply O1);rfl;(simp (disch:=omega);exact Rz);exact Rz;(focus (first|(simp;done)|omega|(simp;omega))))|((with_reducible apply Z1);(simp (disch:=omega);exact Rz)))
        refine q_drop (.inr rfl) (by simp;exact Rz) (by simp) ⟨hno fun h=>absurd (h1.2 h.2.1) (by decide),rfl⟩
      | true =>
        repeat (first|((with_reducible apply O1);rfl;(simp (disch:=omega);exact Rz);exact Rz;(focus (first|(simp;done)|omega|(simp;omega))))|((with_reducible apply Z7);(simp (disch:=omega);exact Rz)))
        (with_reducible apply e_call);(simp;exact Rz);exact c_r4within _ _ _ _ h2
        rintro _ _ ⟨rfl,rfl⟩
        repeat (first|(with_reducible first|apply X3|apply X8)|((with_reducible apply e_end);(simp;exact Rz))|((with_reducible apply O1);rfl;(simp (disch:=omega);exact Rz);exact Rz;(focus (first|(simp;done)|omega|(simp;omega)))))
        refine q_drop (.inr rfl) (by simp;exact Rz) (by simp) ⟨by rw [AV.bool.injEq,Bool.eq_iff_iff,h2,hb];exact⟨fun h=>⟨hsh,h1.1 rfl,h⟩,fun h=>h.2.2⟩,rfl⟩
theorem sh_floor {s:Sc} (hs:1≤s.step∧s.step≤500) (g o w:Int):shF s g o w=(w * (1000+g)+1000 * o) / (1000 * s.step) * s.step:=by
  have e1:gr g w+o=(w * (1000+g)+1000 * o) / 1000:=by simp only [gr];omega
  have e2:(w * (1000+g)+1000 * o) / 1000 / s.step=(w * (1000+g)+1000 * o) / (1000 * s.step):=by
    rw [Int.ediv_ediv,if_neg (by omega),Int.sub_zero]
  simp only [shF]
  rw [e1,Int.emod_def,e2,Int.mul_comm s.step]
  omega
theorem sh_trunc {s:Sc} (hs:1≤s.step∧s.step≤500) (g o w:Int):(if w * (1000+g)+1000 * o<1000 * ((w * (1000+g)+1000 * o).tdiv (1000 * s.step) * s.step) then (w * (1000+g)+1000 * o).tdiv (1000 * s.step) * s.step-s.step else (w * (1000+g)+1000 * o).tdiv (1000 * s.step) * s.step)=shF s g o w:=by
  rw [sh_floor hs]
  generalize w * (1000+g)+1000 * o=X
  have hD:0<1000 * s.step:=by omega
  have e1:=Int.tdiv_eq_ediv (a:=X) (b:=1000 * s.step)
  rw [Int.sign_eq_one_of_pos hD] at e1
  have e2:=Int.ediv_mul_le X (b:=1000 * s.step) (by omega)
  have e3:=Int.lt_ediv_add_one_mul_self X hD
  generalize hq:X / (1000 * s.step)=q at *
  have e4:q * (1000 * s.step)=1000 * (q * s.step):=by rw [Int.mul_left_comm]
  have e5:(q+1) * (1000 * s.step)=1000 * (q * s.step)+1000 * s.step:=by rw [Int.add_mul,e4,Int.one_mul]
  rw [e4] at e2
  rw [e5] at e3
  split at e1
  · rw [e1,Int.add_zero,if_neg (by omega)]
  · rw [e1]
    have e6:(q+1) * s.step=q * s.step+s.step:=by rw [Int.add_mul,Int.one_mul]
    rw [e6,if_pos (by omega)]
    omega
theorem td_bd {X D:Int} (hD:1≤D) (hX:-5000000000≤X∧X≤6000000000):-7000000000≤X.tdiv D∧X.tdiv D≤7000000000:=by
  have e1:=Int.tdiv_eq_ediv (a:=X) (b:=D)
  rw [Int.sign_eq_one_of_pos (by omega)] at e1
  have e2:X / D≤6000000000:=by
    refine Int.ediv_le_of_le_mul (by omega) ?_
    have:6000000000 * 1≤6000000000 * D:=Int.mul_le_mul_of_nonneg_left hD (by omega)
    omega
  have e3:-5000000000≤X / D:=by
    refine Int.le_ediv_of_mul_le (by omega) ?_
    have:5000000000 * 1≤5000000000 * D:=Int.mul_le_mul_of_nonneg_left hD (by omega)
    omega
  rw [e1]
  generalize X / D=y at *
  split <;> omega
theorem c_lawReads (H:Heap) (s:Sc) (tid toff:Nat) (ex:Bool) (ht:tid<H.length) (hs:1≤s.step∧s.step≤500) (g o w:Int) (hg:-10≤g∧g≤10) (ho:-4000000≤o∧o≤4000000) (hw:0≤w∧w≤1000000) :
    ACalls Try.prog F.law04_reads [.agg (s.av tid toff ex),.agg [.int .i64 g,.int .i64 o],.int .i64 w] H (fun v h'=>v=.int .i64 (shF s g o w)∧h'=H):=by
  have h1:=gr_bd hg hw
  have h0:¬ s.step=0:=by omega
  have hsh:=sh_trunc hs g o w
  have hb:=sh_bd hs hg ho hw
  have hq:=td_bd (X:=w * (1000+g)+1000 * o) (D:=1000 * s.step) (by omega) (by omega)
  have hm:-3500000000000≤(w * (1000+g)+1000 * o).tdiv (1000 * s.step) * s.step∧(w * (1000+g)+1000 * o).tdiv (1000 * s.step) * s.step≤3500000000000:=by
    generalize (w * (1000+g)+1000 * o).tdiv (1000 * s.step)=q at *
    have a1:q * s.step≤7000000000 * s.step:=Int.mul_le_mul_of_nonneg_right hq.2 (by omega)
    have a2:-7000000000 * s.step≤q * s.step:=Int.mul_le_mul_of_nonneg_right hq.1 (by omega)
    omega
  simp only [Sc.av]
  refine acalls_of ok_law04_reads rfl fun hcl=>?_
  unfold ac_law04_reads zo
  simp only [argsT,Nat.zero_add,Nat.reduceAdd]
  by_cases hc:w * (1000+g)+1000 * o<1000 * ((w * (1000+g)+1000 * o).tdiv (1000 * s.step) * s.step)
  · rw [if_pos hc] at hsh
    repeat (first|(with_reducible first|apply X1|apply X2|apply X3|apply X8|apply Y9)|((with_reducible first|apply e_end|apply d_end);(simp;exact Rz))|((first|((with_reducible apply O1);rfl)|((with_reducible apply P1);rfl)|((with_reducible apply P2);rfl));(simp (disch:=omega) [hc];exact Rz);exact Rz;(focus (first|(simp;done)|omega|(simp;omega))))|((with_reducible apply Z9);(simp (disch:=omega) [hc];exact Rz)))
    refine q_drop (.inr rfl) (by simp;exact Rz) (by simp) ⟨by rw [AV.int.injEq];exact⟨rfl,hsh⟩,rfl⟩
  · rw [if_neg hc] at hsh
    repeat (first|(with_reducible first|apply X1|apply X2|apply X3|apply X5|apply X8|apply Y9)|((with_reducible first|apply e_end|apply d_end);(simp;exact Rz))|((first|((with_reducible apply O1);rfl)|((with_reducible apply P1);rfl)|((with_reducible apply P2);rfl));(simp (disch:=omega) [hc];exact Rz);exact Rz;(focus (first|(simp;done)|omega|(simp;omega))))|((with_reducible apply W3);(simp (disch:=omega) [hc];exact Rz)))
    refine q_drop (.inr rfl) (by simp;exact Rz) (by simp) ⟨by rw [AV.int.injEq];exact⟨rfl,hsh⟩,rfl⟩
theorem TG_mem {s:Sc} {k j:Nat}:j∈TG s k↔j<k∧tunB s (s.gLo+j)=true:=by
  simp [TG,List.mem_filter,List.mem_range]
theorem TG_inc (s:Sc) (k:Nat):(TG s k).Pairwise (·<·):=List.Pairwise.filter _ List.pairwise_lt_range
def tgN (s:Sc) (i:Nat):Nat:=(TG s s.gs).getD i 0
theorem tgN_get {s:Sc} {i:Nat} (h:i<(TG s s.gs).length):tgN s i=(TG s s.gs)[i]:=by simp [tgN,h]
theorem tgA_eq (s:Sc) (i:Nat):tgA s i=s.gLo+tgN s i:=rfl
theorem tgN_ok {s:Sc} {i:Nat} (h:i<(TG s s.gs).length):tgN s i<s.gs∧tunB s (tgA s i)=true:=by
  have:=TG_mem.1 (List.getElem_mem h)
  rw [← tgN_get h] at this
  exact this
theorem tgN_lt {s:Sc} {i j:Nat} (hij:i<j) (h:j<(TG s s.gs).length):tgN s i<tgN s j:=by
  rw [tgN_get h,tgN_get (by omega)]
  exact List.pairwise_iff_getElem.1 (TG_inc s s.gs) i j (by omega) h hij
theorem tgN_all {s:Sc} {k:Nat} (hk:k<s.gs) (ht:tunB s (s.gLo+k)=true):∃ i,i<(TG s s.gs).length∧tgN s i=k:=by
  obtain⟨i,hi,he⟩:=List.getElem_of_mem (TG_mem.2 ⟨hk,ht⟩)
  exact⟨i,hi,by rw [tgN_get hi,he]⟩
theorem gs_eq {s:Sc} (hs:s.ok):(s.gs:Int)=s.gHi-s.gLo+1:=by
  have:=hs.b;simp only [Sc.built] at this;simp only [Sc.gs];omega
theorem tgA_bd {s:Sc} (hs:s.ok) {i:Nat} (h:i<(TG s s.gs).length):s.gLo≤tgA s i∧tgA s i≤s.gHi:=by
  have:=(tgN_ok h).1
  have:=gs_eq hs
  rw [tgA_eq];omega
theorem wLo_le (f:Nat→Int):∀ j i,i≤j→wLo f j≤f i
  | 0, i, h => by obtain rfl : i = 0 := by omega
                  exact Int.le_refl _
  | j+1,i,h=>by
    have ih:=wLo_le f j
    simp only [wLo]
    rcases Nat.lt_or_ge j i with h1|h1
    · obtain rfl:i=j+1:=by omega
      omega
    · have:=ih i h1;omega
theorem wHi_ge (f:Nat→Int):∀ j i,i≤j→f i≤wHi f j
  | 0, i, h => by obtain rfl : i = 0 := by omega
                  exact Int.le_refl _
  | j+1,i,h=>by
    have ih:=wHi_ge f j
    simp only [wHi]
    rcases Nat.lt_or_ge j i with h1|h1
    · obtain rfl:i=j+1:=by omega
      omega
    · have:=ih i h1;omega
theorem wLo_at (f:Nat→Int):∀ j,∃ i,i≤j∧wLo f j=f i
  | 0=>⟨0,Nat.le_refl _,rfl⟩
  | j+1=>by
    obtain⟨i,h1,h2⟩:=wLo_at f j
    by_cases h:wLo f j≤f (j+1)
    · exact⟨i,by omega,by simp only [wLo];omega⟩
    · exact⟨j+1,Nat.le_refl _,by simp only [wLo];omega⟩
theorem wHi_at (f:Nat→Int):∀ j,∃ i,i≤j∧wHi f j=f i
  | 0=>⟨0,Nat.le_refl _,rfl⟩
  | j+1=>by
    obtain⟨i,h1,h2⟩:=wHi_at f j
    by_cases h:f (j+1)≤wHi f j
    · exact⟨i,by omega,by simp only [wHi];omega⟩
    · exact⟨j+1,Nat.le_refl _,by simp only [wHi];omega⟩
theorem sh_mono {s:Sc} (hs:1≤s.step∧s.step≤500) {g o o' w:Int} (h:o≤o'):shF s g o w≤shF s g o' w:=by
  rw [sh_floor hs,sh_floor hs]
  exact Int.mul_le_mul_of_nonneg_right (Int.ediv_le_ediv (by omega) (by omega)) (by omega)
theorem sh_step (s:Sc) (g o w:Int):(shF s g o w) % s.step=0:=by
  simp only [shF]
  rw [Int.emod_def (gr g w+o)]
  have:gr g w+o-(gr g w+o-s.step * ((gr g w+o) / s.step))=s.step * ((gr g w+o) / s.step):=by omega
  rw [this];exact Int.mul_emod_right _ _
theorem tru_iff {s:Sc} (hs:s.ok) (g o:Int):s.tru g o↔∃ i,i<(TG s s.gs).length∧tgA s i=g∧oLoF s g s.ts.length≤o∧o≤oHiF s g s.ts.length:=by
  have hg:=gs_eq hs
  have ho:=o_iff s g o s.ts.length
  constructor
  · rintro⟨h1,h2,h3⟩
    have h4:=ho.2 ⟨h3,h1⟩
    obtain⟨i,hi,he⟩:=tgN_all (s:=s) (k:=(g-s.gLo).toNat) (by omega) (by
      rw [show s.gLo+((g-s.gLo).toNat:Int)=g by omega]
      simp only [tunB,decide_eq_true_eq];omega)
    exact⟨i,hi,by rw [tgA_eq,he];omega,h4⟩
  · rintro⟨i,hi,rfl,h1⟩
    have h2:=ho.1 h1
    exact⟨h2.2,tgA_bd hs hi,h2.1⟩
theorem c_in1 (H:Heap) (id off:Nat) (ex:Bool) (lo hi n:Int) (hr:rd H id off 2=some [.int .i64 lo,.int .i64 hi]) {b:Bool} (hb:b=true↔lo≤n∧n≤hi):ACalls Try.prog F.law04_in [.slice id off 1 2 ex,.int .i64 n] H (fun v h'=>v=.bool b∧h'=H):=by
  have hid:=rd_lt hr
  refine acalls_of ok_law04_in rfl fun hcl=>?_
  unfold ac_law04_in zo
  simp only [argsT,Nat.zero_add,Nat.reduceAdd]
  repeat (first|(with_reducible first|apply X1|apply X2|apply X6|apply X8)|((with_reducible apply e_end);(simp;exact Rz))|((with_reducible apply O1);rfl;(simp (disch:=omega);exact Rz);exact Rz;(focus (first|(simp;done)|omega|(simp;omega)))))
  refine e_loop (ι:={ i:Nat // i≤1∧(i=1→b=false) }) (fun i=>[(1,.int .i64 n),(7,.slice id off 1 2 ex),(8,.int .i64 1),(9,.int .i64 i.1)]) (fun _=>H) (fun i=>1-i.1) ⟨0,by simp⟩ ?_ ?_
  · exact .inr <| le_id (by simp;omega)
  · rintro⟨i,hi1,hib⟩
    dsimp only
    by_cases h0:i=0
    · subst h0
      by_cases h1:lo≤n
      · by_cases h2:n≤hi
        · have e:b=true:=hb.2 ⟨h1,h2⟩
          repeat (first|(with_reducible first|apply X1|apply X2|apply X3|apply X5|apply X6|apply X8|apply X9|apply Y3|apply Y5)|((with_reducible apply e_end);(simp;exact Rz))|((first|((with_reducible apply O1);rfl)|((with_reducible apply O2);rfl));(simp (disch:=omega) [rd_old _ hid,hr,h1,h2];exact Rz);exact Rz;(focus (first|(simp;done)|omega|(simp;omega))))|((with_reducible first|apply Z7|apply Z9);(simp (disch:=omega) [rd_old _ hid,hr,h1,h2];exact Rz)))
          refine q_drop (.inr rfl) (by simp;exact Rz) (by simp) ⟨by rw [e],rfl⟩
        · have e:b=false:=by cases b;rfl;exact absurd (hb.1 rfl).2 h2
          repeat (first|(with_reducible first|apply X1|apply X2|apply X5|apply X6|apply X8|apply Y2)|((with_reducible apply e_end);(simp;exact Rz))|((first|((with_reducible apply O1);rfl)|((with_reducible apply O2);rfl));(simp (disch:=omega) [rd_old _ hid,hr,h1,h2];exact Rz);exact Rz;(focus (first|(simp;done)|omega|(simp;omega))))|((with_reducible first|apply Z7|apply Z9);(simp (disch:=omega) [rd_old _ hid,hr,h1,h2];exact Rz))|((with_reducible apply W3);(simp (disch:=omega) [rd_old _ hid,hr,h1,h2];exact Rz)))
          exact q_again ⟨1,by omega,fun _=>e⟩ (by dsimp only;omega) (.inr <| le_drop (by simp;omega))
      · have e:b=false:=by cases b;rfl;exact absurd (hb.1 rfl).1 h1
        repeat (first|(with_reducible first|apply X1|apply X2|apply X5|apply X6|apply X8|apply Y2)|((with_reducible apply e_end);(simp;exact Rz))|((first|((with_reducible apply O1);rfl)|((with_reducible apply O2);rfl));(simp (disch:=omega) [rd_old _ hid,hr,h1];exact Rz);exact Rz;(focus (first|(simp;done)|omega|(simp;omega))))|((with_reducible apply Z9);(simp (disch:=omega) [rd_old _ hid,hr,h1];exact Rz))|((with_reducible apply Z1);(simp (disch:=omega) [rd_old _ hid,hr,h1];exact Rz))|((with_reducible apply W3);(simp (disch:=omega) [rd_old _ hid,hr,h1];exact Rz)))
        exact q_again ⟨1,by omega,fun _=>e⟩ (by dsimp only;omega) (.inr <| le_drop (by simp;omega))
    · obtain rfl:i=1:=by omega
      have e:=hib rfl
      repeat (first|(with_reducible first|apply X1|apply X2|apply X3|apply X4|apply X8|apply Y1|apply Y4|apply Y6)|((with_reducible apply e_end);(simp;exact Rz))|((with_reducible apply O1);rfl;(simp (disch:=omega);exact Rz);exact Rz;(focus (first|(simp;done)|omega|(simp;omega))))|((with_reducible apply W3);(simp (disch:=omega);exact Rz)))
      refine q_drop0 (.inr rfl) (by simp;exact Rz) (by simp) ⟨by rw [e],rfl⟩
theorem ti_plain:∀ l:List Ti,Plain (l.flatMap Ti.av)
  | []=>Plain.nil
  | t :: l=>by
    rw [List.flatMap_cons]
    exact Plain.app ⟨rfl,fun _=>rfl,fun _=>rfl⟩ (ti_plain l)
theorem ti_len (l:List Ti):(l.flatMap Ti.av).length=l.length * 2:=by
  induction l with
  | nil=>rfl
  | cons t l ih=>rw [List.flatMap_cons,List.length_append,ih,List.length_cons,Ti.av_length];omega
theorem c_TwinScale (H:Heap) (s:Sc) (tid toff:Nat) (ex:Bool) (ht:rd H tid toff (s.ts.length * 2)=some (s.ts.flatMap Ti.av)) (hn:s.ts.length≤1000) :
    ACalls Try.prog F.ref04_TwinScale [.agg (s.av tid toff ex)] H (fun v h'=>v=.agg (s.av H.length 0 false)∧h'=H++[.cells (s.ts.flatMap Ti.av) true]):=by
  have htl:=rd_lt ht
  have pl:=ti_plain s.ts
  simp only [Sc.av]
  refine acalls_of ok_ref04_TwinScale rfl fun hcl=>?_
  unfold ac_ref04_TwinScale zo
  simp only [argsT,Nat.zero_add,Nat.reduceAdd]
  repeat (first|(with_reducible first|apply X1|apply X2|apply X3|apply X8)|((with_reducible apply e_end);(simp;exact Rz))|((first|((with_reducible apply O1);rfl)|((with_reducible apply O2);rfl));(simp (disch:=omega) [rd_old _ htl,ht,pl.scal];exact Rz);exact Rz;(focus (first|(simp;done)|omega|(simp;omega)))))
  exact q_post (v':=.agg [.int .i64 s.id,.int .i64 s.step,.int .i64 s.gLo,.int .i64 s.gHi,.int .i64 s.oLo,.int .i64 s.oHi,.slice H.length 0 s.ts.length 2 false]) (.inr rfl) (by simp;exact Rz) (le_plain [3] _ (by simp) rfl (by simp;exact pl.o _) (by simp [sh,AV.ren,renL])) ⟨rfl,rfl⟩
def Sc.more (s:Sc) (t:Ti):Sc:={ s with ts:=s.ts++[t] }
theorem more_len (s:Sc) (t:Ti):(s.more t).ts.length=s.ts.length+1:=by simp [Sc.more]
theorem more_t (s:Sc) (t:Ti) {j:Nat} (h:j<s.ts.length):(s.more t).t j=s.t j:=by
  simp [Sc.more,Sc.t,List.getElem?_append_left h]
theorem more_lo (s:Sc) (t:Ti) (g:Int):∀ j,j≤s.ts.length→oLoF (s.more t) g j=oLoF s g j∧oHiF (s.more t) g j=oHiF s g j
  | 0,_=>⟨rfl,rfl⟩
  | j+1,h=>by
    have ih:=more_lo s t g j (by omega)
    have e:=more_t s t (j:=j) (by omega)
    simp only [oLoF,oHiF,ih.1,ih.2,e]
    exact⟨trivial,rfl⟩
theorem more_bd (s:Sc) (t:Ti) (g:Int):oLoF s g s.ts.length≤oLoF (s.more t) g (s.more t).ts.length∧oHiF (s.more t) g (s.more t).ts.length≤oHiF s g s.ts.length:=by
  have h:=more_lo s t g s.ts.length (Nat.le_refl _)
  rw [more_len]
  simp only [oLoF,oHiF,h.1,h.2]
  omega
theorem more_tun {s:Sc} {t:Ti} {g:Int} (h:tunB (s.more t) g=true):tunB s g=true:=by
  have:=more_bd s t g
  simp only [tunB,decide_eq_true_eq] at h ⊢
  omega
theorem more_at {s:Sc} {t:Ti} {i:Nat} (hi:i<(TG (s.more t) (s.more t).gs).length):∃ j,j<(TG s s.gs).length∧tgA s j=tgA (s.more t) i:=by
  have h:=tgN_ok hi
  have h2:tunB s (s.gLo+(tgN (s.more t) i:Nat))=true:=more_tun (t:=t) h.2
  obtain⟨j,hj,he⟩:=tgN_all (s:=s) (k:=tgN (s.more t) i) h.1 h2
  exact⟨j,hj,by rw [tgA_eq,tgA_eq,he];rfl⟩
theorem o_in (s:Sc) (g:Int):∀ j,s.oLo≤oLoF s g j∧oHiF s g j≤s.oHi
  | 0=>⟨Int.le_refl _,Int.le_refl _⟩
  | j+1=>by
    have ih:=o_in s g j
    simp only [oLoF,oHiF]
    omega
theorem tg_inc {s:Sc} {i:Nat} (h:i<(TG s s.gs).length) (h0:0<i):tgA s (i-1)<tgA s i:=by
  have:=tgN_lt (s:=s) (i:=i-1) (j:=i) (by omega) h
  rw [tgA_eq,tgA_eq];omega
theorem rd_in {s:Sc} (hs:s.ok) {w:Int} (he:rdE s w=0) {i:Nat} (h:i<(TG s s.gs).length):rdLo s w≤rdFL s w i∧rdFL s w i≤rdFH s w i∧rdFH s w i≤rdHi s w:=by
  have hb:=hs.b
  simp only [Sc.built] at hb
  have ht:=(tgN_ok h).2
  simp only [tunB,decide_eq_true_eq] at ht
  have h1:=wLo_le (rdFL s w) ((TG s s.gs).length-1) i (by omega)
  have h2:=wHi_ge (rdFH s w) ((TG s s.gs).length-1) i (by omega)
  have h3:rdFL s w i≤rdFH s w i:=sh_mono hb.2.1 ht
  simp only [rdLo,rdHi,if_pos he]
  exact⟨h1,h3,h2⟩
theorem tru_at {s:Sc} (hs:s.ok) {i:Nat} (h:i<(TG s s.gs).length):s.tru (tgA s i) (oLoF s (tgA s i) s.ts.length)∧s.tru (tgA s i) (oHiF s (tgA s i) s.ts.length):=by
  have ht:=(tgN_ok h).2
  simp only [tunB,decide_eq_true_eq] at ht
  exact⟨(tru_iff hs _ _).2 ⟨i,h,rfl,Int.le_refl _,ht⟩,(tru_iff hs _ _).2 ⟨i,h,rfl,ht,Int.le_refl _⟩⟩
theorem AAt.tun {h:Heap} {v:AV} {s:Sc} (hA:AAt h 3 v (tunL s (TG s s.gs)) (TG s s.gs).length) {i:Nat} (hi:i<(TG s s.gs).length):∃ id,v=.slice id 0 (TG s s.gs).length 3 false∧id<h.length∧∀ i,i<(TG s s.gs).length→rd h id (i * 3) 3=some [.int .i64 (tgA s i),.int .i64 (oLoF s (tgA s i) s.ts.length),.int .i64 (oHiF s (tgA s i) s.ts.length)]:=by
  obtain⟨hc,⟨_,h0⟩|⟨id,_,rfl,hh⟩⟩:=hA
  · omega
  refine⟨id,rfl,(List.getElem?_eq_some_iff.1 hh).1,fun i hi=>?_⟩
  have e1:=flat_row (f:=tunV s) (k:=3) (fun _=>rfl) (TG s s.gs) i hi
  rw [rd_cellsK hh (by rw [hc];omega)]
  rw [show tunL s (TG s s.gs)=(TG s s.gs).flatMap (tunV s) from rfl,e1]
  simp [tunV,tgA,hi]
end Go.Proofs
