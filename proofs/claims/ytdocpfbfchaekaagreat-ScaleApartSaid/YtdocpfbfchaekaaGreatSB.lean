/- Several texts as one. -/
import Derived.Test.YtdocpfbfchaekaaGreatSA
/- Scale: what the reference and the law say of a scale. -/
namespace Go.Proofs
open Go.Abs
attribute [local simp] AOp.den AOpd.ev lk cellsOf rd_new rd_new0 rd_zero rd_succ wr_new wr_new0 wr_zero wr_succ splice fillA binA scal sliceCells List.length_append argsT AV.sc scL AObj.sc resV getAll AR.get AOp.slots opdSlots opdsSlots partSlots eqAt at_new0 at_new set_new0 set_new wrap64
set_option linter.unusedSimpArgs false
set_option linter.unusedVariables false
theorem c_r4within (H:Heap) (n lo hi:Int) {b:Bool} (hb:b=true↔lo≤n∧n≤hi):ACalls Try.prog F.ref04_within [.int .i64 n,.int .i64 lo,.int .i64 hi] H (fun v h'=>v=.bool b∧h'=H):=by
  have hn:¬ (lo≤n∧n≤hi)→AV.bool false=.bool b:=fun h=>by rw [AV.bool.injEq];cases b;rfl;exact absurd (hb.1 rfl) h
  refine acalls_of ok_ref04_within rfl fun hcl=>?_
  unfold ac_ref04_within zo
  simp only [argsT,Nat.zero_add,Nat.reduceAdd]
  by_cases h1:lo≤n
  · by_cases h2:n≤hi
    · repeat (first|(with_reducible first|apply X1|apply X2|apply X3|apply X8)|((with_reducible apply e_end);(simp;exact Rz))|((with_reducible apply O1);rfl;(simp (disch:=omega) [h1,h2];exact Rz);exact Rz;(focus (first|(simp;done)|omega|(simp;omega))))|((with_reducible apply Z7);(simp (disch:=omega) [h1,h2];exact Rz)))
      refine q_drop0 (.inr rfl) (by simp;exact Rz) (by simp) ⟨by rw [AV.bool.injEq];exact (hb.2 ⟨h1,h2⟩).symm,rfl⟩
    · repeat (first|(with_reducible first|apply X1|apply X2|apply X3|apply X8)|((with_reducible apply e_end);(simp;exact Rz))|((with_reducible apply O1);rfl;(simp (disch:=omega) [h1,h2];exact Rz);exact Rz;(focus (first|(simp;done)|omega|(simp;omega))))|((with_reducible apply Z7);(simp (disch:=omega) [h1,h2];exact Rz)))
      refine q_drop0 (.inr rfl) (by simp;exact Rz) (by simp) ⟨hn (fun h=>h2 h.2),rfl⟩
  · repeat (first|(with_reducible first|apply X1|apply X2|apply X3|apply X8)|((with_reducible apply e_end);(simp;exact Rz))|((with_reducible apply O1);rfl;(simp (disch:=omega) [h1];exact Rz);exact Rz;(focus (first|(simp;done)|omega|(simp;omega))))|((with_reducible apply Z1);(simp (disch:=omega) [h1];exact Rz)))
    refine q_drop0 (.inr rfl) (by simp;exact Rz) (by simp) ⟨hn (fun h=>h1 h.1),rfl⟩
theorem c_r4spanned (H:Heap) (a c lo hi:Int) {b:Bool} (hb:b=true↔a≤c∧lo≤a∧c≤hi):ACalls Try.prog F.ref04_spanned [.agg [.int .i64 a,.int .i64 c],.int .i64 lo,.int .i64 hi] H (fun v h'=>v=.bool b∧h'=H):=by
  have hn:¬ (a≤c∧lo≤a∧c≤hi)→AV.bool false=.bool b:=fun h=>by rw [AV.bool.injEq];cases b;rfl;exact absurd (hb.1 rfl) h
  refine acalls_of ok_ref04_spanned rfl fun hcl=>?_
  unfold ac_ref04_spanned zo
  simp only [argsT,Nat.zero_add,Nat.reduceAdd]
  by_cases h1:lo≤a
  · by_cases h2:a≤c
    · by_cases h3:c≤hi
      · repeat (first|(with_reducible first|apply X1|apply X2|apply X3|apply X8)|((with_reducible apply e_end);(simp;exact Rz))|((with_reducible apply O1);rfl;(simp (disch:=omega) [h1,h2,h3];exact Rz);exact Rz;(focus (first|(simp;done)|omega|(simp;omega))))|((with_reducible apply Z7);(simp (disch:=omega) [h1,h2,h3];exact Rz)))
        refine q_drop (.inr rfl) (by simp;exact Rz) (by simp) ⟨by rw [AV.bool.injEq];exact (hb.2 ⟨h2,h1,h3⟩).symm,rfl⟩
      · repeat (first|(with_reducible first|apply X1|apply X2|apply X3|apply X8)|((with_reducible apply e_end);(simp;exact Rz))|((with_reducible apply O1);rfl;(simp (disch:=omega) [h1,h2,h3];exact Rz);exact Rz;(focus (first|(simp;done)|omega|(simp;omega))))|((with_reducible apply Z7);(simp (disch:=omega) [h1,h2,h3];exact Rz)))
        refine q_drop (.inr rfl) (by simp;exact Rz) (by simp) ⟨hn (fun h=>h3 h.2.2),rfl⟩
    · repeat (first|(with_reducible first|apply X1|apply X2|apply X3|apply X8)|((with_reducible apply e_end);(simp;exact Rz))|((with_reducible apply O1);rfl;(simp (disch:=omega) [h1,h2];exact Rz);exact Rz;(focus (first|(simp;done)|omega|(simp;omega))))|((with_reducible apply Z7);(simp (disch:=omega) [h1,h2];exact Rz))|((with_reducible apply Z1);(simp (disch:=omega) [h1,h2];exact Rz)))
      refine q_drop (.inr rfl) (by simp;exact Rz) (by simp) ⟨hn (fun h=>h2 h.1),rfl⟩
  · repeat (first|(with_reducible first|apply X1|apply X2|apply X3|apply X8)|((with_reducible apply e_end);(simp;exact Rz))|((with_reducible apply O1);rfl;(simp (disch:=omega) [h1];exact Rz);exact Rz;(focus (first|(simp;done)|omega|(simp;omega))))|((with_reducible apply Z1);(simp (disch:=omega) [h1];exact Rz)))
    refine q_drop (.inr rfl) (by simp;exact Rz) (by simp) ⟨hn (fun h=>h1 h.2.1),rfl⟩
theorem c_r4shown (H:Heap) (s:Sc) (n:Int) (hs:1≤s.step∧s.step≤500) {b:Bool} (hb:b=true↔s.can n):ACalls Try.prog F.ref04_shown [.int .i64 n,.int .i64 s.step] H (fun v h'=>v=.bool b∧h'=H):=by
  have h0:¬ s.step=0:=by omega
  obtain⟨b1,h1⟩:=bof (-2000000≤n∧n≤2000000)
  refine acalls_of ok_ref04_shown rfl fun hcl=>?_
  unfold ac_ref04_shown zo
  simp only [argsT,Nat.zero_add,Nat.reduceAdd]
  repeat (first|(with_reducible first|apply X1|apply X2|apply X8)|((with_reducible apply e_end);(simp;exact Rz))|((with_reducible apply O1);rfl;(simp (disch:=omega);exact Rz);exact Rz;(focus (first|(simp;done)|omega|(simp;omega)))))
  (with_reducible apply e_call);(simp;exact Rz);exact c_r4within _ _ _ _ h1
  rintro _ _ ⟨rfl,rfl⟩
  cases b1 with
  | false =>
    repeat (first|(with_reducible first|apply X3|apply X8)|((with_reducible apply e_end);(simp;exact Rz))|((with_reducible apply O1);rfl;(simp (disch:=omega);exact Rz);exact Rz;(focus (first|(simp;done)|omega|(simp;omega))))|((with_reducible apply Z1);(simp (disch:=omega);exact Rz)))
    refine q_drop0 (.inr rfl) (by simp;exact Rz) (by simp) ⟨by rw [AV.bool.injEq];cases b;rfl;exact absurd (h1.2 (hb.1 rfl).2) (by decide),rfl⟩
  | true =>
    by_cases hm:n.tmod s.step=0
    · repeat (first|(with_reducible first|apply X3|apply X8)|((with_reducible apply e_end);(simp;exact Rz))|((with_reducible apply O1);rfl;(simp (disch:=omega) [h0,hm];exact Rz);exact Rz;(focus (first|(simp;done)|omega|(simp;omega))))|((with_reducible apply Z7);(simp (disch:=omega) [h0,hm];exact Rz)))
      refine q_drop0 (.inr rfl) (by simp;exact Rz) (by simp) ⟨by rw [AV.bool.injEq];exact (hb.2 ⟨hm,h1.1 rfl⟩).symm,rfl⟩
    · repeat (first|(with_reducible first|apply X3|apply X8)|((with_reducible apply e_end);(simp;exact Rz))|((with_reducible apply O1);rfl;(simp (disch:=omega) [h0,hm];exact Rz);exact Rz;(focus (first|(simp;done)|omega|(simp;omega))))|((with_reducible apply Z7);(simp (disch:=omega) [h0,hm];exact Rz)))
      refine q_drop0 (.inr rfl) (by simp;exact Rz) (by simp) ⟨by rw [AV.bool.injEq];cases b;rfl;exact absurd (hb.1 rfl).1 hm,rfl⟩
set_option maxHeartbeats 2000000 in
theorem c_r4Scale (H:Heap) (s:Sc) (tid toff:Nat) (ex:Bool) (ht:rd H tid toff (s.ts.length * 2)=some (s.ts.flatMap Ti.av)) (hn:(s.ts.length:Int)<1000000) {b:Bool} (hb:b=true↔s.ok) :
    ACalls Try.prog F.ref04_Scale [.agg (s.av tid toff ex)] H (fun v h'=>v=.bool b∧h'=H):=by
  have htl:=rd_lt ht
  have hno:¬ s.ok→AV.bool false=.bool b:=fun h=>by rw [AV.bool.injEq];cases b;rfl;exact absurd (hb.1 rfl) h
  obtain⟨b1,h1⟩:=bof (0≤s.id∧s.id≤9999)
  obtain⟨b2,h2⟩:=bof (1≤s.step∧s.step≤500)
  obtain⟨b3,h3⟩:=bof (s.gLo≤s.gHi∧-10≤s.gLo∧s.gHi≤10)
  obtain⟨b4,h4⟩:=bof (s.oLo≤s.oHi∧-100≤s.oLo∧s.oHi≤100)
  simp only [Sc.av]
  refine acalls_of ok_ref04_Scale rfl fun hcl=>?_
  unfold ac_ref04_Scale zo
  simp only [argsT,Nat.zero_add,Nat.reduceAdd]
  repeat (first|(with_reducible first|apply X1|apply X2|apply X8)|((with_reducible apply e_end);(simp;exact Rz))|((with_reducible apply O1);rfl;(simp (disch:=omega);exact Rz);exact Rz;(focus (first|(simp;done)|omega|(simp;omega)))))
  (with_reducible apply e_call);(simp;exact Rz);exact c_r4within _ _ _ _ h1
  rintro _ _ ⟨rfl,rfl⟩
  cases b1 with
  | false =>
    repeat (first|(with_reducible first|apply X1|apply X2|apply X3|apply X8|apply X9)|((with_reducible apply e_end);(simp;exact Rz))|((with_reducible apply O1);rfl;(simp (disch:=omega);exact Rz);exact Rz;(focus (first|(simp;done)|omega|(simp;omega))))|((with_reducible apply Z9);(simp (disch:=omega);exact Rz))|((with_reducible apply Z2);(simp (disch:=omega);exact Rz)))
    refine q_drop (.inr rfl) (by simp;exact Rz) (by simp) ⟨hno fun h=>absurd (h1.2 h.b.1) (by decide),rfl⟩
  | true =>
  repeat (first|((with_reducible apply O1);rfl;(simp (disch:=omega);exact Rz);exact Rz;(focus (first|(simp;done)|omega|(simp;omega))))|((with_reducible apply Z7);(simp (disch:=omega);exact Rz)))
  (with_reducible apply e_call);(simp;exact Rz);exact c_r4within _ _ _ _ h2
  rintro _ _ ⟨rfl,rfl⟩
  cases b2 with
  | false =>
    repeat (first|(with_reducible first|apply X1|apply X2|apply X3|apply X8|apply X9)|((with_reducible apply e_end);(simp;exact Rz))|((with_reducible apply O1);rfl;(simp (disch:=omega);exact Rz);exact Rz;(focus (first|(simp;done)|omega|(simp;omega))))|((with_reducible first|apply Z7|apply Z9);(simp (disch:=omega);exact Rz))|((with_reducible apply Z2);(simp (disch:=omega);exact Rz)))
    refine q_drop (.inr rfl) (by simp;exact Rz) (by simp) ⟨hno fun h=>absurd (h2.2 h.b.2.1) (by decide),rfl⟩
  | true =>
  repeat (first|((with_reducible apply O1);rfl;(simp (disch:=omega);exact Rz);exact Rz;(focus (first|(simp;done)|omega|(simp;omega))))|((with_reducible apply Z7);(simp (disch:=omega);exact Rz)))
  (with_reducible apply e_call);(simp;exact Rz);exact c_r4spanned _ _ _ _ _ h3
  rintro _ _ ⟨rfl,rfl⟩
  cases b3 with
  | false =>
    repeat (first|(with_reducible first|apply X1|apply X2|apply X3|apply X8|apply X9)|((with_reducible apply e_end);(simp;exact Rz))|((with_reducible apply O1);rfl;(simp (disch:=omega);exact Rz);exact Rz;(focus (first|(simp;done)|omega|(simp;omega))))|((with_reducible first|apply Z7|apply Z9);(simp (disch:=omega);exact Rz))|((with_reducible apply Z2);(simp (disch:=omega);exact Rz)))
    refine q_drop (.inr rfl) (by simp;exact Rz) (by simp) ⟨hno fun h=>absurd (h3.2 h.b.2.2.1) (by decide),rfl⟩
  | true =>
  repeat (first|((with_reducible apply O1);rfl;(simp (disch:=omega);exact Rz);exact Rz;(focus (first|(simp;done)|omega|(simp;omega))))|((with_reducible apply Z7);(simp (disch:=omega);exact Rz)))
  (with_reducible apply e_call);(simp;exact Rz);exact c_r4spanned _ _ _ _ _ h4
  rintro _ _ ⟨rfl,rfl⟩
  cases b4 with
  | false =>
    repeat (first|(with_reducible first|apply X1|apply X2|apply X3|apply X8|apply X9)|((with_reducible apply e_end);(simp;exact Rz))|((with_reducible apply O1);rfl;(simp (disch:=omega);exact Rz);exact Rz;(focus (first|(simp;done)|omega|(simp;omega))))|((with_reducible first|apply Z7|apply Z9);(simp (disch:=omega);exact Rz))|((with_reducible apply Z2);(simp (disch:=omega);exact Rz)))
    refine q_drop (.inr rfl) (by simp;exact Rz) (by simp) ⟨hno fun h=>absurd (h4.2 h.b.2.2.2) (by decide),rfl⟩
  | true =>
  have hbl:s.built:=⟨h1.1 rfl,h2.1 rfl,h3.1 rfl,h4.1 rfl⟩
  by_cases h6:6<s.ts.length
  · have h62:(6:Int)<s.ts.length:=by omega
    repeat (first|(with_reducible first|apply X1|apply X2|apply X3|apply X8|apply X9)|((with_reducible apply e_end);(simp;exact Rz))|((with_reducible apply O1);rfl;(simp (disch:=omega) [h6,h62];exact Rz);exact Rz;(focus (first|(simp;done)|omega|(simp;omega))))|((with_reducible first|apply Z7|apply Z9);(simp (disch:=omega) [h6,h62];exact Rz)))
    refine q_drop (.inr rfl) (by simp;exact Rz) (by simp) ⟨hno fun h=>by have:=h.len;omega,rfl⟩
  have h62:¬ (6:Int)<s.ts.length:=by omega
  repeat (first|(with_reducible first|apply X1|apply X2|apply X5|apply X6|apply X8)|((with_reducible apply e_end);(simp;exact Rz))|((with_reducible apply O1);rfl;(simp (disch:=omega) [h6,h62];exact Rz);exact Rz;(focus (first|(simp;done)|omega|(simp;omega))))|((with_reducible apply Z7);(simp (disch:=omega) [h6,h62];exact Rz))|((with_reducible apply W3);(simp (disch:=omega) [h6,h62];exact Rz)))
  refine e_loop (ι:={ i:Nat // i≤s.ts.length∧∀ j,j<i→s.tri (s.t j) })
    (fun i=>[(1,.ptr H.length 0),(3,.int .i64 i.1)]) (fun _=>H++[.cells [.int .i64 s.id,.int .i64 s.step,.int .i64 s.gLo,.int .i64 s.gHi,.int .i64 s.oLo,.int .i64 s.oHi,.slice tid toff s.ts.length 2 ex] true]) (fun i=>s.ts.length-i.1) ⟨0,by simp⟩ ?_ ?_
  · exact .inl (by simp)
  · rintro⟨i,hi,hok⟩
    dsimp only
    by_cases hlt:i<s.ts.length
    · have hlt2:(i:Int)<s.ts.length:=by omega
      have hx:=rd_row Ti.av_length ht hlt
      rw [← Sc.t_eq hlt] at hx
      simp only [Ti.av] at hx
      have hx0:rd H tid (toff+i * 2) 1=some [.int .i64 (s.t i).w]:=by have:=rd_sub' hx 0 1 (by omega);simpa using this
      have hx1:rd H tid (toff+i * 2+1) 1=some [.int .i64 (s.t i).n]:=by have:=rd_sub' hx 1 1 (by omega);simpa using this
      obtain⟨c1,g1⟩:=bof (0≤(s.t i).w∧(s.t i).w≤1000000)
      obtain⟨c2,g2⟩:=bof (s.can (s.t i).n)
      repeat (first|(with_reducible first|apply X1|apply X2|apply X5|apply X6|apply X8|apply Y9)|((with_reducible apply e_end);(simp;exact Rz))|((first|((with_reducible apply O1);rfl)|((with_reducible apply P1);rfl)|((with_reducible apply P2);rfl));(simp (disch:=omega) [hlt,hlt2,rd_old _ htl,hx0,hx1];exact Rz);exact Rz;(focus (first|(simp;done)|omega|(simp;omega))))|((with_reducible apply Z9);(simp (disch:=omega) [hlt,hlt2,rd_old _ htl,hx0,hx1];exact Rz)))
      (with_reducible apply d_call);(simp;exact Rz);exact c_r4within _ _ _ _ g1;(focus (first|(simp;done)|(simp;omega)))
      cases c1 with
      | false =>
        repeat (first|(with_reducible first|apply X1|apply X2|apply X3|apply X8|apply X9|apply Y3|apply Y5)|((with_reducible first|apply e_end|apply d_end);(simp;exact Rz))|((first|((with_reducible apply O1);rfl)|((with_reducible apply P1);rfl));(simp (disch:=omega);exact Rz);exact Rz;(focus (first|(simp;done)|omega|(simp;omega))))|((with_reducible apply Z9);(simp (disch:=omega);exact Rz))|((with_reducible apply Z6);(simp (disch:=omega);exact Rz)))
        refine q_drop (.inr rfl) (by simp;exact Rz) (by simp) ⟨hno fun h=>absurd (g1.2 (h.tr i hlt).1) (by decide),rfl⟩
      | true =>
        repeat (first|((first|((with_reducible apply P1);rfl)|((with_reducible apply P2);rfl));(simp (disch:=omega) [hlt,hlt2,rd_old _ htl,hx0,hx1];exact Rz);exact Rz;(focus (first|(simp;done)|omega|(simp;omega))))|((with_reducible apply Z8);(simp (disch:=omega) [hlt,hlt2,rd_old _ htl,hx0,hx1];exact Rz)))
        (with_reducible apply d_call);(simp;exact Rz);exact c_r4shown _ s _ hbl.2.1 g2;(focus (first|(simp;done)|(simp;omega)))
        cases c2 with
        | false =>
          repeat (first|(with_reducible first|apply X1|apply X2|apply X3|apply X8|apply X9|apply Y3|apply Y5)|((with_reducible first|apply e_end|apply d_end);(simp;exact Rz))|((first|((with_reducible apply O1);rfl)|((with_reducible apply P1);rfl));(simp (disch:=omega);exact Rz);exact Rz;(focus (first|(simp;done)|omega|(simp;omega))))|((with_reducible first|apply Z8|apply Z9);(simp (disch:=omega);exact Rz)))
          refine q_drop (.inr rfl) (by simp;exact Rz) (by simp) ⟨hno fun h=>absurd (g2.2 (h.tr i hlt).2) (by decide),rfl⟩
        | true =>
          repeat (first|(with_reducible first|apply X2|apply X5|apply X8|apply Y2)|((with_reducible first|apply e_end|apply d_end);(simp;exact Rz))|((first|((with_reducible apply O1);rfl)|((with_reducible apply P1);rfl));(simp (disch:=omega);exact Rz);exact Rz;(focus (first|(simp;done)|omega|(simp;omega))))|((with_reducible apply Z8);(simp (disch:=omega);exact Rz))|((with_reducible apply W3);(simp (disch:=omega);exact Rz)))
          refine q_again ⟨i+1,hlt,?_⟩ (by dsimp only;omega) (.inl (by simp))
          intro j hj
          rcases Nat.lt_or_ge j i with h|h
          · exact hok j h
          · obtain rfl:j=i:=by omega
            exact⟨g1.1 rfl,g2.1 rfl⟩
    · have hlt2:¬ (i:Int)<s.ts.length:=by omega
      obtain rfl:i=s.ts.length:=by omega
      repeat (first|(with_reducible first|apply X1|apply X2|apply X3|apply X4|apply X8|apply Y1|apply Y4|apply Y6)|((with_reducible apply e_end);(simp;exact Rz))|((with_reducible apply O1);rfl;(simp (disch:=omega) [hlt2];exact Rz);exact Rz;(focus (first|(simp;done)|omega|(simp;omega))))|((with_reducible apply W3);(simp (disch:=omega) [hlt2];exact Rz)))
      refine q_drop (.inr rfl) (by simp;exact Rz) (by simp) ⟨by rw [AV.bool.injEq];exact (hb.2 ⟨hbl,by omega,hok⟩).symm,rfl⟩
def Sc.shows (s:Sc) (g o w n:Int):Prop:=1000 * n≤w * (1000+g)+1000 * o∧w * (1000+g)+1000 * o<1000 * (n+s.step)
theorem shows_iff (s:Sc) (g o w n:Int):s.shows g o w n↔n-gr g w≤o∧o≤n-gr g w+s.step-1:=by
  simp only [Sc.shows,gr]
  omega
def Sc.tru (s:Sc) (g o:Int):Prop:=(∀ i,i<s.ts.length→s.shows g o (s.t i).w (s.t i).n)∧(s.gLo≤g∧g≤s.gHi)∧(s.oLo≤o∧o≤s.oHi)
theorem o_iff (s:Sc) (g o:Int):∀ j,(oLoF s g j≤o∧o≤oHiF s g j)↔(s.oLo≤o∧o≤s.oHi)∧∀ i,i<j→s.shows g o (s.t i).w (s.t i).n
  | 0=>by simp [oLoF,oHiF]
  | j+1=>by
    have ih:=o_iff s g o j
    have hs:=shows_iff s g o (s.t j).w (s.t j).n
    constructor
    · intro h
      simp only [oLoF,oHiF] at h
      have h1:=ih.1 ⟨by omega,by omega⟩
      refine⟨h1.1,fun i hi=>?_⟩
      rcases Nat.lt_or_ge i j with h2|h2
      · exact h1.2 i h2
      · obtain rfl:i=j:=by omega
        exact hs.2 ⟨by omega,by omega⟩
    · rintro⟨h1,h2⟩
      have h3:=ih.2 ⟨h1,fun i hi=>h2 i (by omega)⟩
      have h4:=hs.1 (h2 j (by omega))
      simp only [oLoF,oHiF]
      omega
def tgN (s:Sc) (i:Nat):Nat:=(TG s s.gs).getD i 0
theorem gs_eq {s:Sc} (hs:s.ok):(s.gs:Int)=s.gHi-s.gLo+1:=by
  have:=hs.b;simp only [Sc.built] at this;simp only [Sc.gs];omega
theorem ti_plain:∀ l:List Ti,Plain (l.flatMap Ti.av)
  | []=>Plain.nil
  | t :: l=>by
    rw [List.flatMap_cons]
    exact Plain.app ⟨rfl,fun _=>rfl,fun _=>rfl⟩ (ti_plain l)
theorem c_TwinScale (H:Heap) (s:Sc) (tid toff:Nat) (ex:Bool) (ht:rd H tid toff (s.ts.length * 2)=some (s.ts.flatMap Ti.av)) (hn:s.ts.length≤1000) :
    ACalls Try.prog F.ref04_TwinScale [.agg (s.av tid toff ex)] H (fun v h'=>v=.agg (s.av H.length 0 false)∧h'=H++[.cells (s.ts.flatMap Ti.av) true]):=by
  have htl:=rd_lt ht
  have pl:=ti_plain s.ts
  simp only [Sc.av]
  refine acalls_of ok_ref04_TwinScale rfl fun hcl=>?_
  unfold ac_ref04_TwinScale zo
  simp only [argsT,Nat.zero_add,Nat.reduceAdd]
  repeat (first|(with_reducible first|apply X1|apply X2|apply X3|apply X8)|((with_reducible apply e_end);(simp;exact Rz))|((first|((with_reducible apply O1);rfl)|((with_reducible apply O2);rfl));(simp (disch:=omega) [rd_old _ htl,ht,pl.scal];exact Rz);exact Rz;(focus (first|(simp;done)|omega|(simp;omega)))))
  exact q_post (v':=.agg [.int .i64 s.id,.int .i64 s.step,.int .i64 s.gLo,.int .i64 s.gHi,.int .i64 s.oLo,.int .i64 s.oHi,.slice H.length 0 s.ts.length 2 false]) (.inr rfl) (by simp;exact Rz) (le_plain [3] _ (by simp) rfl (by simp;exact pl.o _) (by simp [sh,AV.ren,renL])) ⟨rfl,rfl⟩
def Sc.more (s:Sc) (t:Ti):Sc:={ s with ts:=s.ts++[t] }
theorem o_in (s:Sc) (g:Int):∀ j,s.oLo≤oLoF s g j∧oHiF s g j≤s.oHi
  | 0=>⟨Int.le_refl _,Int.le_refl _⟩
  | j+1=>by
    have ih:=o_in s g j
    simp only [oLoF,oHiF]
    omega
def Sc.os (s:Sc):Nat:=(s.oHi-s.oLo+1).toNat
theorem tru_in {s:Sc} {g o:Int} (hg:s.gLo≤g∧g≤s.gHi):s.tru g o↔oLoF s g s.ts.length≤o∧o≤oHiF s g s.ts.length:=by
  have h:=o_iff s g o s.ts.length
  constructor
  · rintro⟨a,_,b⟩;exact h.2 ⟨b,a⟩
  · intro a;have b:=h.1 a;exact⟨b.2,hg,b.1⟩
end Go.Proofs
