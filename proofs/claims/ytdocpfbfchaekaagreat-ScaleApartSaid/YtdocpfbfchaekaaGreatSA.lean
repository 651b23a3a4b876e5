/- Several texts as one. -/
import Derived.Test.YtdocpfbfchaekaaGreatDD
import Derived.Test.YtdocpfbfchaekaaGreatAc1
noncomputable section
/- What layers share: spans that are valid,appends in regions that draw. -/
namespace Go.Proofs
open Go.Abs
attribute [local simp] AOp.den AOpd.ev lk cellsOf rd_new rd_new0 rd_zero rd_succ wr_new wr_new0 wr_zero wr_succ splice fillA binA scal sliceCells List.length_append argsT AV.sc scL AObj.sc resV getAll AR.get AOp.slots opdSlots opdsSlots partSlots eqAt at_new0 at_new set_new0 set_new wrap64
set_option linter.unusedSimpArgs false
set_option linter.unusedVariables false
theorem rd_sub' {H:Heap} {id off n:Nat} {vs:List AV} (h:rd H id off n=some vs) (j m:Nat) (hj:j+m≤n):rd H id (off+j) m=some ((vs.drop j).take m):=rd_sub h hj
structure Lim where
  a:Int
  b:Int
  lo:Int
  hi:Int
def Lim.av (x:Lim):List AV:=[.int .i64 x.a,.int .i64 x.b,.int .i64 x.lo,.int .i64 x.hi]
theorem Lim.av_length (x:Lim):x.av.length=4:=rfl
def Lim.ok (x:Lim):Prop:=x.a≤x.b∧x.lo≤x.a∧x.b≤x.hi
theorem c_Valid (H:Heap) (xs:List Lim) (id off:Nat) (ex:Bool) (hs:rd H id off (xs.length * 4)=some (xs.flatMap Lim.av)) (hn:(xs.length:Int)<1000000) {b:Bool} (hb:b=true↔∀ j (hj:j<xs.length),xs[j].ok) :
    ACalls Try.prog F.span_Valid [.slice id off xs.length 4 ex] H (fun v h'=>v=.bool b∧h'=H):=by
  refine acalls_of ok_span_Valid rfl fun hcl=>?_
  unfold ac_span_Valid zo
  simp only [argsT,Nat.zero_add,Nat.reduceAdd]
  have hid:=rd_lt hs
  repeat (first|(with_reducible first|apply X1|apply X2|apply X6|apply X8)|((with_reducible apply e_end);(simp;exact Rz))|((with_reducible apply O1);rfl;(simp (disch:=omega);exact Rz);exact Rz;(focus (first|(simp;done)|omega|(simp;omega)))))
  refine e_loop (ι:={ i:Nat // i≤xs.length∧∀ j (hj:j<xs.length),j<i→xs[j].ok })
    (fun i=>[(5,.slice id off xs.length 4 ex),(6,.int .i64 xs.length),(7,.int .i64 i.1)]) (fun _=>H) (fun i=>xs.length-i.1) ⟨0,by simp⟩ ?_ ?_
  · exact .inr <| le_id (by simp [hid])
  · rintro⟨i,hi1,hi2⟩
    dsimp only
    repeat (first|(with_reducible first|apply X1|apply X2|apply X8)|((with_reducible apply e_end);(simp;exact Rz))|((with_reducible apply O1);rfl;(simp (disch:=omega);exact Rz);exact Rz;(focus (first|(simp;done)|omega|(simp;omega)))))
    (with_reducible apply e_dec);(simp;exact Rz)
    · intro hlt
      have hlt:i<xs.length:=by omega
      have hx:=rd_row Lim.av_length hs hlt
      generalize hsi:xs[i]=s at hx
      obtain⟨a1,a2,a3,a4⟩:=s
      simp only [Lim.av] at hx
      repeat (first|(with_reducible first|apply X1|apply X2|apply X5|apply X6|apply X8)|((with_reducible apply e_end);(simp;exact Rz))|((first|((with_reducible apply O1);rfl)|((with_reducible apply O2);rfl));(simp (disch:=omega) [rd_old _ hid,hx];exact Rz);exact Rz;(focus (first|(simp;done)|omega|(simp;omega)))))
      (with_reducible apply e_call);(simp;exact Rz);exact c_fits _ _ _ _ _
      rintro _ _ ⟨rfl,rfl⟩
      by_cases hok:a1≤a2∧a3≤a1∧a2≤a4
      · repeat (first|(with_reducible first|apply X2|apply X5|apply X8|apply Y2)|((with_reducible apply e_end);(simp;exact Rz))|((with_reducible apply O1);rfl;(simp (disch:=omega) [hok];exact Rz);exact Rz;(focus (first|(simp;done)|omega|(simp;omega))))|((with_reducible apply W3);(simp (disch:=omega) [hok];exact Rz)))
        refine q_again ⟨i+1,hlt,?_⟩ ?_ ?_
        · intro j hj hji
          rcases Nat.lt_or_ge j i with h|h
          · exact hi2 j hj h
          · have:j=i:=by omega
            subst this;rw [hsi];exact hok
        · dsimp only;omega
        · exact .inr <| le_drop (by simp;omega)
      · repeat (first|(with_reducible first|apply X1|apply X2|apply X3|apply X8|apply X9|apply Y3|apply Y5)|((with_reducible apply e_end);(simp;exact Rz))|((with_reducible apply O1);rfl;(simp (disch:=omega) [hok];exact Rz);exact Rz;(focus (first|(simp;done)|omega|(simp;omega))))|((with_reducible apply Z9);(simp (disch:=omega) [hok];exact Rz)))
        refine q_drop (.inr rfl) (by simp;exact Rz) (by simp) ⟨?_,rfl⟩
        rw [AV.bool.injEq]
        refine (Bool.eq_false_iff.2 fun h=>hok ?_).symm
        have:=hb.1 h i hlt
        rw [hsi] at this;exact this
    · intro hge
      repeat (first|(with_reducible first|apply X1|apply X2|apply X3|apply X4|apply X8|apply Y1|apply Y4|apply Y6)|((with_reducible apply e_end);(simp;exact Rz))|((with_reducible apply O1);rfl;(simp (disch:=omega);exact Rz);exact Rz;(focus (first|(simp;done)|omega|(simp;omega)))))
      refine q_drop0 (.inr rfl) (by simp;exact Rz) (by simp) ⟨?_,rfl⟩
      rw [AV.bool.injEq]
      exact (hb.2 fun j hj=>hi2 j hj (by omega)).symm
theorem c_within1 (H:Heap) (lo hi x:Int) (id off:Nat) (ex:Bool) {b:Bool} (hb:b=true↔lo≤x∧x≤hi) (hs:rd H id off 1=some [.int .i64 x]) :
    ACalls Try.prog F.span_Within [.agg [.int .i64 lo,.int .i64 hi],.slice id off 1 1 ex] H (fun v h'=>v=.bool b∧h'=H):=by
  have:b=([x].all fun x=>decide (lo≤x∧x≤hi)):=by rw [Bool.eq_iff_iff,hb];simp
  subst this
  exact c_within H lo hi [x] id off ex (by simpa using hs) (by simp)
theorem c_both (H:Heap) (a b x y:Int):ACalls Try.prog F.span_Both [.agg [.int .i64 a,.int .i64 b],.agg [.int .i64 x,.int .i64 y]] H (fun v h'=>v=.agg [.int .i64 (max a x),.int .i64 (min b y)]∧h'=H):=by
  refine acalls_of ok_span_Both rfl fun hcl=>?_
  unfold ac_span_Both zo
  simp only [argsT,Nat.zero_add,Nat.reduceAdd]
  have m1:(if a<x then x else a)=max a x:=by split <;> omega
  have m2:(if y<b then y else b)=min b y:=by split <;> omega
  repeat (first|(with_reducible first|apply X1|apply X2|apply X3|apply X8)|((with_reducible apply e_end);(simp;exact Rz))|((first|((with_reducible apply O1);rfl)|((with_reducible apply O2);rfl));(simp (disch:=omega) [m1,m2];exact Rz);exact Rz;(focus (first|(simp;done)|omega|(simp;omega)))))
  refine q_drop (.inr rfl) (by simp;exact Rz) (by simp) ⟨rfl,rfl⟩
theorem c_around (H:Heap) (a:Int) (h:-9223372036854775807≤a∧a≤9223372036854775807):ACalls Try.prog F.span_Around [.int .i64 a] H (fun v h'=>v=.agg [.int .i64 (-a),.int .i64 a]∧h'=H):=by
  refine acalls_of ok_span_Around rfl fun hcl=>?_
  unfold ac_span_Around zo
  simp only [argsT,Nat.zero_add,Nat.reduceAdd]
  repeat (first|(with_reducible first|apply X1|apply X2|apply X3|apply X8)|((with_reducible apply e_end);(simp;exact Rz))|((first|((with_reducible apply O1);rfl)|((with_reducible apply O2);rfl));(simp (disch:=omega);exact Rz);exact Rz;(focus (first|(simp;done)|omega|(simp;omega)))))
  refine q_drop (.inr rfl) (by simp;exact Rz) (by simp) ⟨by simp,rfl⟩
structure Ti where
  w:Int
  n:Int
def Ti.av (t:Ti):List AV:=[.int .i64 t.w,.int .i64 t.n]
theorem Ti.av_length (t:Ti):t.av.length=2:=rfl
structure Sc where
  id:Int
  step:Int
  gLo:Int
  gHi:Int
  oLo:Int
  oHi:Int
  ts:List Ti
def Sc.av (s:Sc) (tid toff:Nat) (ex:Bool):List AV:=[.int .i64 s.id,.int .i64 s.step,.int .i64 s.gLo,.int .i64 s.gHi,.int .i64 s.oLo,.int .i64 s.oHi,.slice tid toff s.ts.length 2 ex]
def Sc.t (s:Sc) (i:Nat):Ti:=s.ts.getD i ⟨0,0⟩
theorem Sc.t_eq {s:Sc} {i:Nat} (h:i<s.ts.length):s.t i=s.ts[i]:=by simp [Sc.t,h]
def Sc.built (s:Sc):Prop:=(0≤s.id∧s.id≤9999)∧(1≤s.step∧s.step≤500)∧(s.gLo≤s.gHi∧-10≤s.gLo∧s.gHi≤10)∧(s.oLo≤s.oHi∧-100≤s.oLo∧s.oHi≤100)
def Sc.can (s:Sc) (n:Int):Prop:=n.tmod s.step=0∧-2000000≤n∧n≤2000000
def Sc.tri (s:Sc) (t:Ti):Prop:=(0≤t.w∧t.w≤1000000)∧s.can t.n
structure Sc.ok (s:Sc):Prop where
  b:s.built
  len:s.ts.length≤6
  tr:∀ i,i<s.ts.length→s.tri (s.t i)
theorem c_built (H:Heap) (s:Sc) (tid toff:Nat) (ex:Bool) (ht:tid<H.length) {b:Bool} (hb:b=true↔s.built):ACalls Try.prog F.scale_built [.agg (s.av tid toff ex)] H (fun v h'=>v=.bool b∧h'=H):=by
  simp only [Sc.av]
  have hv:b=true↔∀ (j:Nat) (hj:j<[(⟨s.id,s.id,0,9999⟩:Lim),⟨s.step,s.step,1,500⟩,⟨s.gLo,s.gHi,-10,10⟩,⟨s.oLo,s.oHi,-100,100⟩].length),[(⟨s.id,s.id,0,9999⟩:Lim),⟨s.step,s.step,1,500⟩,⟨s.gLo,s.gHi,-10,10⟩,⟨s.oLo,s.oHi,-100,100⟩][j].ok:=by
    rw [hb]
    simp only [Sc.built,Lim.ok]
    constructor
    · intro h j hj
      match j,hj with
      | 0,_=>exact⟨Int.le_refl _,h.1⟩
      | 1,_=>exact⟨Int.le_refl _,h.2.1⟩
      | 2,_=>exact h.2.2.1
      | 3,_=>exact h.2.2.2
    · intro h
      exact⟨(h 0 (by simp)).2,(h 1 (by simp)).2,h 2 (by simp),h 3 (by simp)⟩
  refine acalls_of ok_scale_built rfl fun hcl=>?_
  unfold ac_scale_built zo
  simp only [argsT,Nat.zero_add,Nat.reduceAdd]
  repeat (first|(with_reducible first|apply X1|apply X2|apply X8|apply Y9)|((with_reducible apply e_end);(simp;exact Rz))|((first|((with_reducible apply O1);rfl)|((with_reducible apply P1);rfl)|((with_reducible apply P2);rfl));(simp (disch:=omega);exact Rz);exact Rz;(focus (first|(simp;done)|omega|(simp;omega)))))
  (with_reducible apply d_call);(simp;exact Rz);exact c_one _ _;(focus (first|(simp;done)|(simp;omega)))
  skip
  (with_reducible apply d_call);(simp;exact Rz);exact c_upto _ _;(focus (first|(simp;done)|(simp;omega)))
  repeat (first|((with_reducible apply P1);rfl;(simp (disch:=omega);exact Rz);exact Rz;(focus (first|(simp;done)|omega|(simp;omega))))|((with_reducible apply P6);rfl;(simp (disch:=omega);exact Rz);exact Rz;(focus (first|(simp [pr];done)|(simp [pr];omega)))))
  (with_reducible apply d_call);(simp;exact Rz);exact c_one _ _;(focus (first|(simp;done)|(simp;omega)))
  repeat (first|((with_reducible apply P1);rfl;(simp (disch:=omega);exact Rz);exact Rz;(focus (first|(simp;done)|omega|(simp;omega))))|((with_reducible apply P6);rfl;(simp (disch:=omega);exact Rz);exact Rz;(focus (first|(simp [pr];done)|(simp [pr];omega)))))
  (with_reducible apply d_call);(simp;exact Rz);exact c_around _ _ (by omega);(focus (first|(simp;done)|(simp;omega)))
  repeat (first|((with_reducible apply P1);rfl;(simp (disch:=omega);exact Rz);exact Rz;(focus (first|(simp;done)|omega|(simp;omega))))|((with_reducible apply P6);rfl;(simp (disch:=omega);exact Rz);exact Rz;(focus (first|(simp [pr];done)|(simp [pr];omega)))))
  (with_reducible apply d_call);(simp;exact Rz);exact c_around _ _ (by omega);(focus (first|(simp;done)|(simp;omega)))
  repeat ((first|((with_reducible apply P1);rfl)|((with_reducible apply P3);rfl));(simp (disch:=omega);exact Rz);exact Rz;(focus (first|(simp;done)|omega|(simp;omega))))
  (with_reducible apply d_call);(simp;exact Rz);exact c_Valid _ [⟨s.id,s.id,0,9999⟩,⟨s.step,s.step,1,500⟩,⟨s.gLo,s.gHi,-10,10⟩,⟨s.oLo,s.oHi,-100,100⟩] _ _ _ (by simp [Lim.av]) (by simp) hv;(focus (first|(simp;done)|(simp;omega)))
  repeat (first|(with_reducible first|apply X3|apply X8)|((with_reducible apply d_end);(simp;exact Rz))|((with_reducible apply P1);rfl;(simp (disch:=omega);exact Rz);exact Rz;(focus (first|(simp;done)|omega|(simp;omega)))))
  refine q_drop (.inr rfl) (by simp;exact Rz) (by simp) ⟨rfl,rfl⟩
theorem c_showable (H:Heap) (s:Sc) (tid toff:Nat) (ex:Bool) (ht:tid<H.length) (n:Int) (hs:1≤s.step∧s.step≤500) {b:Bool} (hb:b=true↔s.can n):ACalls Try.prog F.scale_showable [.agg (s.av tid toff ex),.int .i64 n] H (fun v h'=>v=.bool b∧h'=H):=by
  simp only [Sc.av]
  refine acalls_of ok_scale_showable rfl fun hcl=>?_
  unfold ac_scale_showable zo
  simp only [argsT,Nat.zero_add,Nat.reduceAdd]
  have h0:¬ s.step=0:=by omega
  obtain⟨b1,h1⟩:=bof (-2000000≤n∧n≤2000000)
  by_cases hm:n.tmod s.step=0
  · repeat (first|(with_reducible first|apply X1|apply X2|apply X8)|((with_reducible apply e_end);(simp;exact Rz))|((with_reducible apply O1);rfl;(simp (disch:=omega) [h0,hm];exact Rz);exact Rz;(focus (first|(simp;done)|omega|(simp;omega))))|((with_reducible apply Z7);(simp (disch:=omega) [h0,hm];exact Rz)))
    (with_reducible apply e_call);(simp;exact Rz);exact c_around _ _ (by omega)
    rintro _ _ ⟨rfl,rfl⟩
    repeat (first|((with_reducible apply O1);rfl;(simp (disch:=omega);exact Rz);exact Rz;(focus (first|(simp;done)|omega|(simp;omega))))|((with_reducible apply Z7);(simp (disch:=omega);exact Rz)))
    (with_reducible apply e_call);(simp;exact Rz);exact c_within1 _ _ _ _ _ _ _ h1 (by simp)
    rintro _ _ ⟨rfl,rfl⟩
    repeat (first|(with_reducible first|apply X3|apply X8)|((with_reducible apply e_end);(simp;exact Rz))|((with_reducible apply O1);rfl;(simp (disch:=omega);exact Rz);exact Rz;(focus (first|(simp;done)|omega|(simp;omega)))))
    refine q_drop (.inr rfl) (by simp;exact Rz) (by simp) ⟨by rw [AV.bool.injEq,Bool.eq_iff_iff,h1,hb];simp only [Sc.can];exact⟨fun h=>⟨hm,h⟩,fun h=>h.2⟩,rfl⟩
  · repeat (first|(with_reducible first|apply X1|apply X2|apply X3|apply X8)|((with_reducible apply e_end);(simp;exact Rz))|((with_reducible apply O1);rfl;(simp (disch:=omega) [h0,hm];exact Rz);exact Rz;(focus (first|(simp;done)|omega|(simp;omega))))|((with_reducible apply Z1);(simp (disch:=omega) [h0,hm];exact Rz)))
    refine q_drop (.inr rfl) (by simp;exact Rz) (by simp) ⟨by rw [AV.bool.injEq];cases b;rfl;exact absurd (hb.1 rfl).1 hm,rfl⟩
theorem c_tried (H:Heap) (s:Sc) (tid toff:Nat) (ex:Bool) (ht:rd H tid toff (s.ts.length * 2)=some (s.ts.flatMap Ti.av)) (hn:(s.ts.length:Int)<1000000) (hs:1≤s.step∧s.step≤500) {b:Bool} (hb:b=true↔s.ts.length≤6∧∀ i,i<s.ts.length→s.tri (s.t i)) :
    ACalls Try.prog F.scale_tried [.agg (s.av tid toff ex)] H (fun v h'=>v=.bool b∧h'=H):=by
  have htl:=rd_lt ht
  have ks:=fun X n b h=>c_showable (H++X) s tid toff ex (by simp;omega) n hs (b:=b) h
  simp only [Sc.av] at ks ⊢
  refine acalls_of ok_scale_tried rfl fun hcl=>?_
  unfold ac_scale_tried zo
  simp only [argsT,Nat.zero_add,Nat.reduceAdd]
  by_cases h6:6<s.ts.length
  · have h62:(6:Int)<s.ts.length:=by omega
    repeat (first|(with_reducible first|apply X1|apply X2|apply X3|apply X8|apply X9)|((with_reducible apply e_end);(simp;exact Rz))|((with_reducible apply O1);rfl;(simp (disch:=omega) [h6,h62];exact Rz);exact Rz;(focus (first|(simp;done)|omega|(simp;omega))))|((with_reducible apply Z9);(simp (disch:=omega) [h6,h62];exact Rz)))
    refine q_drop (.inr rfl) (by simp;exact Rz) (by simp) ⟨by rw [AV.bool.injEq];cases b;rfl;have:=(hb.1 rfl).1;omega,rfl⟩
  have h62:¬ (6:Int)<s.ts.length:=by omega
  repeat (first|(with_reducible first|apply X1|apply X2|apply X5|apply X6|apply X8)|((with_reducible apply e_end);(simp;exact Rz))|((with_reducible apply O1);rfl;(simp (disch:=omega) [h6,h62];exact Rz);exact Rz;(focus (first|(simp;done)|omega|(simp;omega))))|((with_reducible apply W3);(simp (disch:=omega) [h6,h62];exact Rz)))
  refine e_loop (ι:={ i:Nat // i≤s.ts.length∧∀ j,j<i→s.tri (s.t j) })
    (fun i=>[(1,.ptr H.length 0),(10,.slice tid toff s.ts.length 2 ex),(11,.int .i64 s.ts.length),(12,.int .i64 i.1)]) (fun _=>H++[.cells [.int .i64 s.id,.int .i64 s.step,.int .i64 s.gLo,.int .i64 s.gHi,.int .i64 s.oLo,.int .i64 s.oHi,.slice tid toff s.ts.length 2 ex] true]) (fun i=>s.ts.length-i.1) ⟨0,by simp⟩ ?_ ?_
  · exact .inl rfl
  · rintro⟨i,hi,hok⟩
    dsimp only
    by_cases hlt:i<s.ts.length
    · have hlt2:(i:Int)<s.ts.length:=by omega
      have hx:=rd_row Ti.av_length ht hlt
      rw [← Sc.t_eq hlt] at hx
      simp only [Ti.av] at hx
      obtain⟨b1,h1⟩:=bof (0≤(s.t i).w∧(s.t i).w≤1000000)
      obtain⟨b2,h2⟩:=bof (s.can (s.t i).n)
      have hno:¬ s.tri (s.t i)→AV.bool false=.bool b:=fun h=>by rw [AV.bool.injEq];cases b;rfl;exact absurd ((hb.1 rfl).2 i hlt) h
      repeat (first|(with_reducible first|apply X1|apply X2|apply X5|apply X6|apply X8|apply Y9)|((with_reducible apply e_end);(simp;exact Rz))|((first|((with_reducible apply O1);rfl)|((with_reducible apply O2);rfl));(simp (disch:=omega) [hlt,hlt2,rd_old _ htl,hx];exact Rz);exact Rz;(focus (first|(simp;done)|omega|(simp;omega))))|((with_reducible apply Z9);(simp (disch:=omega) [hlt,hlt2,rd_old _ htl,hx];exact Rz)))
      (with_reducible apply d_call);(simp;exact Rz);exact c_upto _ _;(focus (first|(simp;done)|(simp;omega)))
      repeat (first|((first|((with_reducible apply P1);rfl)|((with_reducible apply P3);rfl));(simp (disch:=omega);exact Rz);exact Rz;(focus (first|(simp;done)|omega|(simp;omega))))|((with_reducible apply P6);rfl;(simp (disch:=omega);exact Rz);exact Rz;(focus (first|(simp [pr];done)|(simp [pr];omega)))))
      (with_reducible apply d_call);(simp;exact Rz);exact c_within1 _ _ _ _ _ _ _ h1 (by simp);(focus (first|(simp;done)|(simp;omega)))
      cases b1 with
      | false =>
        repeat (first|(with_reducible first|apply X1|apply X2|apply X3|apply X8|apply X9|apply Y3|apply Y5)|((with_reducible first|apply e_end|apply d_end);(simp;exact Rz))|((first|((with_reducible apply O1);rfl)|((with_reducible apply P1);rfl));(simp (disch:=omega);exact Rz);exact Rz;(focus (first|(simp;done)|omega|(simp;omega))))|((with_reducible apply Z9);(simp (disch:=omega);exact Rz))|((with_reducible apply Z6);(simp (disch:=omega);exact Rz)))
        refine q_drop (.inr rfl) (by simp;exact Rz) (by simp) ⟨hno fun h=>absurd (h1.2 h.1) (by decide),rfl⟩
      | true =>
        repeat (first|((first|((with_reducible apply P1);rfl)|((with_reducible apply P2);rfl));(simp (disch:=omega);exact Rz);exact Rz;(focus (first|(simp;done)|omega|(simp;omega))))|((with_reducible apply Z8);(simp (disch:=omega);exact Rz)))
        (with_reducible apply d_call);(simp;exact Rz);exact ks _ _ _ h2;(focus (first|(simp;done)|(simp;omega)))
        cases b2 with
        | false =>
          repeat (first|(with_reducible first|apply X1|apply X2|apply X3|apply X8|apply X9|apply Y3|apply Y5)|((with_reducible first|apply e_end|apply d_end);(simp;exact Rz))|((first|((with_reducible apply O1);rfl)|((with_reducible apply P1);rfl));(simp (disch:=omega);exact Rz);exact Rz;(focus (first|(simp;done)|omega|(simp;omega))))|((with_reducible first|apply Z8|apply Z9);(simp (disch:=omega);exact Rz)))
          refine q_drop (.inr rfl) (by simp;exact Rz) (by simp) ⟨hno fun h=>absurd (h2.2 h.2) (by decide),rfl⟩
        | true =>
          repeat (first|(with_reducible first|apply X2|apply X5|apply X8|apply Y2)|((with_reducible first|apply e_end|apply d_end);(simp;exact Rz))|((first|((with_reducible apply O1);rfl)|((with_reducible apply P1);rfl));(simp (disch:=omega);exact Rz);exact Rz;(focus (first|(simp;done)|omega|(simp;omega))))|((with_reducible apply Z8);(simp (disch:=omega);exact Rz))|((with_reducible apply W3);(simp (disch:=omega);exact Rz)))
          refine q_again ⟨i+1,hlt,?_⟩ (by dsimp only;omega) (.inr ?_)
          · intro j hj
            rcases Nat.lt_or_ge j i with h|h
            · exact hok j h
            · obtain rfl:j=i:=by omega
              exact⟨h1.1 rfl,h2.1 rfl⟩
          · exact le_to0 [0] (by simp) (by simp [KeepAll,sh,AObj.ren,AV.ren,renL];omega) (by simp [sh,AV.ren];omega)
    · have hlt2:¬ (i:Int)<s.ts.length:=by omega
      obtain rfl:i=s.ts.length:=by omega
      repeat (first|(with_reducible first|apply X1|apply X2|apply X3|apply X4|apply X8|apply Y1|apply Y4|apply Y6)|((with_reducible apply e_end);(simp;exact Rz))|((with_reducible apply O1);rfl;(simp (disch:=omega) [hlt2];exact Rz);exact Rz;(focus (first|(simp;done)|omega|(simp;omega))))|((with_reducible apply W3);(simp (disch:=omega) [hlt2];exact Rz)))
      refine q_drop (.inr rfl) (by simp;exact Rz) (by simp) ⟨by rw [AV.bool.injEq,Bool.eq_iff_iff,hb];exact⟨fun _=>⟨by omega,hok⟩,fun _=>rfl⟩,rfl⟩
def gr (g w:Int):Int:=w * (1000+g) / 1000
theorem gr_bd {g w:Int} (hg:-10≤g∧g≤10) (hw:0≤w∧w≤1000000):0≤w * (1000+g)∧w * (1000+g)≤1010000000∧0≤gr g w∧gr g w≤1010000:=by
  have h1:0≤w * (1000+g):=Int.mul_nonneg hw.1 (by omega)
  have h2:w * (1000+g)≤1000000 * 1010:=Int.mul_le_mul hw.2 (by omega) (by omega) (by omega)
  simp only [gr]
  omega
theorem c_grams (H:Heap) (g w:Int) (hg:-10≤g∧g≤10) (hw:0≤w∧w≤1000000):ACalls Try.prog F.scale_grams [.int .i64 g,.int .i64 w] H (fun v h'=>v=.int .i64 (gr g w)∧h'=H):=by
  have hb:=gr_bd hg hw
  refine acalls_of ok_scale_grams rfl fun hcl=>?_
  unfold ac_scale_grams zo
  simp only [argsT,Nat.zero_add,Nat.reduceAdd]
  have e:(w * (1000+g)).tdiv 1000=gr g w:=by rw [gr,Int.tdiv_eq_ediv_of_nonneg hb.1]
  repeat (first|(with_reducible first|apply X1|apply X2|apply X3|apply X8)|((with_reducible apply e_end);(simp;exact Rz))|((with_reducible apply O1);rfl;(simp (disch:=omega) [e];exact Rz);exact Rz;(focus (first|(simp;done)|omega|(simp;omega)))))
  refine q_drop0 (.inr rfl) (by simp;exact Rz) (by simp) ⟨rfl,rfl⟩
theorem c_offsets (H:Heap) (s:Sc) (tid toff:Nat) (ex:Bool) (ht:tid<H.length) (hs:1≤s.step∧s.step≤500) (g:Int) (t:Ti) (hg:-10≤g∧g≤10) (hw:0≤t.w∧t.w≤1000000) (hn:-2000000≤t.n∧t.n≤2000000) :
    ACalls Try.prog F.scale_offsets [.agg (s.av tid toff ex),.int .i64 g,.agg [.int .i64 t.w,.int .i64 t.n]] H (fun v h'=>v=.agg [.int .i64 (t.n-gr g t.w),.int .i64 (t.n-gr g t.w+s.step-1)]∧h'=H):=by
  have hb:=gr_bd hg hw
  simp only [Sc.av]
  refine acalls_of ok_scale_offsets rfl fun hcl=>?_
  unfold ac_scale_offsets zo
  simp only [argsT,Nat.zero_add,Nat.reduceAdd]
  repeat (first|(with_reducible first|apply X1|apply X2|apply X8|apply Y9)|((with_reducible apply e_end);(simp;exact Rz))|((first|((with_reducible apply O1);rfl)|((with_reducible apply P1);rfl)|((with_reducible apply P2);rfl));(simp (disch:=omega);exact Rz);exact Rz;(focus (first|(simp;done)|omega|(simp;omega)))))
  (with_reducible apply d_call);(simp;exact Rz);exact c_grams _ _ _ hg hw;(focus (first|(simp;done)|(simp;omega)))
  repeat (first|(with_reducible first|apply X1|apply X2|apply X3|apply X8)|((with_reducible first|apply e_end|apply d_end);(simp;exact Rz))|((first|((with_reducible apply O1);rfl)|((with_reducible apply O2);rfl)|((with_reducible apply P1);rfl));(simp (disch:=omega);exact Rz);exact Rz;(focus (first|(simp;done)|omega|(simp;omega)))))
  refine q_drop (.inr rfl) (by simp;exact Rz) (by simp) ⟨rfl,rfl⟩
def oLoF (s:Sc) (g:Int):Nat→Int
  | 0=>s.oLo
  | j+1=>max (oLoF s g j) ((s.t j).n-gr g (s.t j).w)
def oHiF (s:Sc) (g:Int):Nat→Int
  | 0=>s.oHi
  | j+1=>min (oHiF s g j) ((s.t j).n-gr g (s.t j).w+s.step-1)
theorem o_bd {s:Sc} (hs:s.ok) {g:Int} (hg:-10≤g∧g≤10):∀ j,j≤s.ts.length→-4000000≤oLoF s g j∧oLoF s g j≤4000000∧-4000000≤oHiF s g j∧oHiF s g j≤4000000
  | 0,_=>by have:=hs.b;simp only [Sc.built] at this;simp only [oLoF,oHiF];omega
  | j+1,h=>by
    have ih:=o_bd hs hg j (by omega)
    have h1:=hs.b;simp only [Sc.built] at h1
    have h2:=hs.tr j (by omega);simp only [Sc.tri,Sc.can] at h2
    have h3:=gr_bd hg h2.1
    simp only [oLoF,oHiF]
    omega
theorem o_empty {s:Sc} {g:Int} {j:Nat} (h:oHiF s g j<oLoF s g j):∀ k,oHiF s g (j+k)<oLoF s g (j+k)
  | 0=>h
  | k+1=>by
    have ih:=o_empty h k
    show min (oHiF s g (j+k)) _<max (oLoF s g (j+k)) _
    omega
def tunB (s:Sc) (g:Int):Bool:=decide (oLoF s g s.ts.length≤oHiF s g s.ts.length)
def TG (s:Sc) (k:Nat):List Nat:=(List.range k).filter fun j=>tunB s (s.gLo+j)
theorem TG_succ (s:Sc) (k:Nat):TG s (k+1)=if tunB s (s.gLo+k)=true then TG s k++[k] else TG s k:=by
  simp only [TG,List.range_succ,List.filter_append,List.filter_cons,List.filter_nil]
  split <;> simp
def Sc.gs (s:Sc):Nat:=(s.gHi-s.gLo+1).toNat
def tunV (s:Sc) (k:Nat):List AV:=[.int .i64 (s.gLo+k),.int .i64 (oLoF s (s.gLo+k) s.ts.length),.int .i64 (oHiF s (s.gLo+k) s.ts.length)]
set_option maxHeartbeats 1000000 in
theorem c_tunes1 (H:Heap) (y sp tid toff:Nat) (ex:Bool) (s:Sc) (hs:s.ok) (Inv:List Nat→Heap→Prop)
    (hm:∀ L X G,Inv L X→Inv L (X++G)) (hr:∀ L X,Inv L X→y<X.length∧rd X sp 0 7=some (s.av tid toff ex)∧rd X tid toff (s.ts.length * 2)=some (s.ts.flatMap Ti.av))
    (hy:∀ k X,k<s.gs→tunB s (s.gLo+k)=true→Inv (TG s k) X→AYields Try.prog y [.agg (tunV s k)] X (fun v h'=>v=.bool true∧Inv (TG s (k+1)) h')) (h0:Inv [] H) :
    ACalls Try.prog F.scale_tunes_1 [.yield y,.ptr sp 0] H (fun _ h'=>Inv (TG s s.gs) h'):=by
  have hb:=hs.b
  simp only [Sc.built] at hb
  have hl:=hs.len
  have hgs:(s.gs:Int)=s.gHi-s.gLo+1:=by simp only [Sc.gs];omega
  have r0:=hr _ _ h0
  have hsp:=rd_lt r0.2.1
  refine acalls_of ok_scale_tunes_1 rfl fun hcl=>?_
  unfold ac_scale_tunes_1 zo
  simp only [argsT,Nat.zero_add,Nat.reduceAdd]
  have r1:=r0.2.1
  simp only [Sc.av] at r1 hr
  have ra:rd H sp 2 1=some [.int .i64 s.gLo]:=by have:=rd_sub' r1 2 1 (by omega);simpa using this
  repeat (first|(with_reducible first|apply X1|apply X2|apply X5|apply X6|apply X7|apply X8)|((with_reducible apply e_end);(simp;exact Rz))|((with_reducible apply O1);rfl;(simp (disch:=omega) [ra];exact Rz);exact Rz;(focus (first|(simp;done)|omega|(simp;omega)))))
  refine e_loop (ι:={ x:Nat × Heap // x.1≤s.gs∧Inv (TG s x.1) x.2 })
    (fun x=>[(0,.yield y),(1,.ptr sp 0),(3,.int .i64 (s.gLo+x.1.1))]) (fun x=>x.1.2) (fun x=>s.gs-x.1.1) ⟨(0,H),by simp,h0⟩ ?_ ?_
  · exact .inl (by simp)
  · rintro⟨⟨k,X⟩,hk,hI⟩
    dsimp only at hk hI ⊢
    obtain⟨hyl,hq,htr⟩:=hr _ _ hI
    have hql:=rd_lt hq
    have htl:=rd_lt htr
    have r2:rd X sp 1 1=some [.int .i64 s.step]:=by have:=rd_sub' hq 1 1 (by omega);simpa using this
    have r3:rd X sp 3 1=some [.int .i64 s.gHi]:=by have:=rd_sub' hq 3 1 (by omega);simpa using this
    have r4:rd X sp 4 2=some [.int .i64 s.oLo,.int .i64 s.oHi]:=by have:=rd_sub' hq 4 2 (by omega);simpa using this
    have r6:rd X sp 6 1=some [.slice tid toff s.ts.length 2 ex]:=by have:=rd_sub' hq 6 1 (by omega);simpa using this
    by_cases hlt:k<s.gs
    · have hlt2:s.gLo+k≤s.gHi:=by omega
      have hg:-10≤s.gLo+k∧s.gLo+k≤10:=by omega
      have hXs:=hr (TG s k)
      have hqf:∀ G,rd (X++G) sp 0 7=some [.int .i64 s.id,.int .i64 s.step,.int .i64 s.gLo,.int .i64 s.gHi,.int .i64 s.oLo,.int .i64 s.oHi,.slice tid toff s.ts.length 2 ex]:=fun G=>by rw [rd_old _ hql];exact hq
      repeat (first|(with_reducible first|apply X1|apply X2|apply X5|apply X6|apply X8)|((with_reducible apply e_end);(simp;exact Rz))|((first|((with_reducible apply O1);rfl)|((with_reducible apply O2);rfl));(simp (disch:=omega) [r3,hlt2,r4,rd_old _ hql,r6];exact Rz);exact Rz;(focus (first|(simp;done)|omega|(simp;omega))))|((with_reducible apply Z9);(simp (disch:=omega) [r3,hlt2,r4,rd_old _ hql,r6];exact Rz)))
      refine e_loop (ι:={ x:Nat × Heap // x.1≤s.ts.length∧(x.1=0∨oLoF s (s.gLo+k) x.1≤oHiF s (s.gLo+k) x.1) })
        (fun x=>[(0,.yield y),(1,.ptr sp 0),(3,.int .i64 (s.gLo+k)),(4,.ptr X.length 0),(20,.slice tid toff s.ts.length 2 ex),(21,.int .i64 s.ts.length),(22,.int .i64 x.1.1)])
        (fun x=>X++(.cells [.int .i64 (oLoF s (s.gLo+k) x.1.1),.int .i64 (oHiF s (s.gLo+k) x.1.1)] true :: x.1.2)) (fun x=>s.ts.length-x.1.1) ⟨(0,[]),by simp⟩ ?_ ?_
      · exact .inl (by simp [oLoF,oHiF])
      · rintro⟨⟨j,G⟩,hj,hne⟩
        dsimp only at hj hne ⊢
        have obd:=o_bd hs hg j hj
        by_cases hjl:j<s.ts.length
        · have hjl2:(j:Int)<s.ts.length:=by omega
          have hx:=rd_row Ti.av_length htr hjl
          rw [← Sc.t_eq hjl] at hx
          simp only [Ti.av] at hx
          have htj:=hs.tr j hjl
          simp only [Sc.tri,Sc.can] at htj
          have ko:=fun Y=>c_offsets (X++Y) s tid toff ex (by simp;omega) hb.2.1 (s.gLo+k) (s.t j) hg htj.1 htj.2.2
          simp only [Sc.av] at ko
          have m1:max (oLoF s (s.gLo+k) j) ((s.t j).n-gr (s.gLo+k) (s.t j).w)=oLoF s (s.gLo+k) (j+1):=rfl
          have m2:min (oHiF s (s.gLo+k) j) ((s.t j).n-gr (s.gLo+k) (s.t j).w+s.step-1)=oHiF s (s.gLo+k) (j+1):=rfl
          have obd2:=o_bd hs hg (j+1) (by omega)
          repeat (first|(with_reducible first|apply X1|apply X2|apply X5|apply X6|apply X8|apply Y9)|((with_reducible apply e_end);(simp;exact Rz))|((first|((with_reducible apply O1);rfl)|((with_reducible apply O2);rfl)|((with_reducible apply P1);rfl)|((with_reducible apply P2);rfl));(simp (disch:=omega) [hjl,hjl2,rd_old _ htl,hx,hqf];exact Rz);exact Rz;(focus (first|(simp;done)|omega|(simp;omega))))|((with_reducible apply Z9);(simp (disch:=omega) [hjl,hjl2,rd_old _ htl,hx,hqf];exact Rz)))
          (with_reducible apply d_call);(simp;exact Rz);exact ko _;(focus (first|(simp;done)|(simp;omega)))
          skip
          (with_reducible apply d_call);(simp;exact Rz);exact c_both _ _ _ _ _;(focus (first|(simp;done)|(simp;omega)))
          rw [m1,m2]
          by_cases hle:oHiF s (s.gLo+k) (j+1)<oLoF s (s.gLo+k) (j+1)
          · have hno:tunB s (s.gLo+k)=false:=by
              have:=o_empty hle (s.ts.length-(j+1))
              rw [show j+1+(s.ts.length-(j+1))=s.ts.length by omega] at this
              simp only [tunB,decide_eq_false_iff_not];omega
            have e1:=TG_succ s k
            rw [hno] at e1
            simp only [Bool.false_eq_true,if_false] at e1
            repeat (first|(with_reducible first|apply X1|apply X2|apply X4|apply X8|apply Y1|apply Y4|apply Y6)|((with_reducible apply q_block_other);decide)|((with_reducible first|apply e_end|apply d_end);(simp;exact Rz))|((first|((with_reducible apply O1);rfl)|((with_reducible apply P4);rfl));(simp (disch:=omega) [hle];exact Rz);exact Rz;(focus (first|(simp;done)|omega|(simp;omega))))|((with_reducible apply Z9);(simp (disch:=omega) [hle];exact Rz)))
            exact q_again ⟨(k+1,X++.cells [.int .i64 (oLoF s (s.gLo+k) (j+1)),.int .i64 (oHiF s (s.gLo+k) (j+1))] true :: (G++[.cells [.int .i64 (s.t j).w,.int .i64 (s.t j).n] true])),hlt,by dsimp only;rw [e1];exact hm _ _ _ hI⟩ (by dsimp only;omega) (.inl (by simp;omega))
          · repeat (first|(with_reducible first|apply X1|apply X2|apply X5|apply X8|apply Y2)|((with_reducible first|apply e_end|apply d_end);(simp;exact Rz))|((first|((with_reducible apply O1);rfl)|((with_reducible apply P4);rfl));(simp (disch:=omega) [hle];exact Rz);exact Rz;(focus (first|(simp;done)|omega|(simp;omega))))|((with_reducible apply W3);(simp (disch:=omega) [hle];exact Rz)))
            exact q_again ⟨(j+1,G++[.cells [.int .i64 (s.t j).w,.int .i64 (s.t j).n] true]),by dsimp only;omega,.inr (by dsimp only;omega)⟩ (by dsimp only;omega) (.inl (by simp))
        · have hjl2:¬ (j:Int)<s.ts.length:=by omega
          obtain rfl:j=s.ts.length:=by omega
          have hyes:tunB s (s.gLo+k)=true:=by
            simp only [tunB,decide_eq_true_eq]
            rcases hne with h|h
            · rw [h];simp only [oLoF,oHiF];omega
            · exact h
          repeat (first|(with_reducible first|apply X1|apply X2|apply X4|apply X8|apply Y1|apply Y4|apply Y6)|((with_reducible apply e_end);(simp;exact Rz))|((with_reducible apply O1);rfl;(simp (disch:=omega) [hjl2];exact Rz);exact Rz;(focus (first|(simp;done)|omega|(simp;omega))))|((with_reducible apply W3);(simp (disch:=omega) [hjl2];exact Rz)))
          (with_reducible apply e_callY);(simp;exact Rz);(simp;exact Rz);exact hy k _ hlt hyes (hm _ _ _ hI)
          rintro _ Y ⟨rfl,hI2⟩
          repeat (first|(with_reducible first|apply X2|apply X5|apply X8|apply Y2)|((with_reducible apply e_end);(simp;exact Rz))|((with_reducible apply O1);rfl;(simp (disch:=omega);exact Rz);exact Rz;(focus (first|(simp;done)|omega|(simp;omega))))|((with_reducible apply W3);(simp (disch:=omega);exact Rz)))
          exact q_again ⟨(k+1,Y),hlt,hI2⟩ (by dsimp only;omega) (.inl (by simp;omega))
    · have hlt2:¬ s.gLo+k≤s.gHi:=by omega
      obtain rfl:k=s.gs:=by omega
      repeat (first|(with_reducible first|apply X1|apply X2|apply X4|apply X8|apply Y1|apply Y4|apply Y6|apply Y7)|((with_reducible apply e_end);(simp;exact Rz))|((with_reducible apply O1);rfl;(simp (disch:=omega) [r3,hlt2];exact Rz);exact Rz;(focus (first|(simp;done)|omega|(simp;omega))))|((with_reducible apply W3);(simp (disch:=omega) [r3,hlt2];exact Rz)))
      exact q_stay (v:=.tuple []) (.inl rfl) (by simp;exact Rz) hI
def tunL (s:Sc) (L:List Nat):List AV:=L.flatMap (tunV s)
theorem TG_len (s:Sc):∀ k,(TG s k).length≤k:=fun k=>by
  simp only [TG]
  exact Nat.le_trans (List.length_filter_le _ _) (by simp)
theorem AAt.keep {h h':Heap} {sz:Nat} {v:AV} {cs:List AV} {n:Nat} (hl:AAt h sz v cs n) (hk:∀ i,isId v i→h'[i]?=h[i]?):AAt h' sz v cs n:=by
  obtain⟨hc,h1|⟨id,h0,rfl,hh⟩⟩:=hl
  · exact⟨hc,.inl h1⟩
  · exact⟨hc,.inr ⟨id,h0,rfl,by rw [hk id rfl];exact hh⟩⟩
theorem get_two {H G:Heap} {a b a' b':AObj} {i:Nat} (h:H.length+2≤i):(H++a :: b :: G)[i]?=(H++a' :: b' :: G)[i]?:=by
  rw [List.getElem?_append_right (by omega),List.getElem?_append_right (by omega)]
  obtain⟨j,rfl⟩:∃ j,i=H.length+(j+1+1):=⟨i-H.length-2,by omega⟩
  simp only [Nat.add_sub_cancel_left,List.getElem?_cons_succ]
def atA:AC:=.ops [⟨some 5,.alloc [.int .i64 0,.int .i64 0,.int .i64 0],none⟩,⟨none,.store (.t 5) 3 (.t 7),none⟩] (some [2,5])
def atB:AC:=.block 1 (.ops [⟨some 8,.load1 (.t 2),none⟩,⟨some 9,.loadN (.t 5) 3,none⟩,⟨some 10,.buildSlice [.int .i64 0,.int .i64 0,.int .i64 0] [(0,3,.t 9)] 1 3,none⟩,⟨some 11,.append (.t 8) (.t 10) 3 24,none⟩,⟨none,.store (.t 2) 1 (.t 11),none⟩] (some []))
def atT (H:Heap) (sp:Nat):List (Nat × AV):=[(2,.ptr H.length 0),(4,.nilslice),(6,.fn (.func F.scale_tunes_1) [] [.ptr sp 0])]
def atL (H:Heap) (sp:Nat) (ph:Phase):AObj:=.other (.loop (atT H sp) [7] atA atB ph)
def InvT (H:Heap) (sp:Nat) (s:Sc) (L:List Nat) (X:Heap):Prop:=∃ v G,X=H++.cells [v] true :: atL H sp .ready :: G∧AAt X 3 v (tunL s L) L.length∧∀ i,isId v i→H.length+2≤i
theorem InvT.app {H:Heap} {sp:Nat} {s:Sc} {L:List Nat} {X:Heap} (h:InvT H sp s L X) (G:Heap):InvT H sp s L (X++G):=by
  obtain⟨v,G1,rfl,h1,h2⟩:=h
  exact⟨v,G1++G,by simp,h1.app G,h2⟩
theorem c_tunes (H:Heap) (s:Sc) (tid toff:Nat) (ex:Bool) (ht:tid<H.length):ACalls Try.prog F.scale_tunes [.agg (s.av tid toff ex)] H (fun v h'=>v=.fn (.func F.scale_tunes_1) [] [.ptr H.length 0]∧h'=H++[.cells (s.av tid toff ex) true]):=by
  simp only [Sc.av]
  refine acalls_of ok_scale_tunes rfl fun hcl=>?_
  unfold ac_scale_tunes zo
  simp only [argsT,Nat.zero_add,Nat.reduceAdd]
  repeat (first|(with_reducible first|apply X1|apply X2|apply X3|apply X4|apply X5|apply X6|apply X7|apply X8|apply X9|apply Y1|apply Y2|apply Y3|apply Y4|apply Y5|apply Y6|apply Y7|apply Y8|apply Y9)|((with_reducible apply q_block_other);decide)|((with_reducible first|apply e_end|apply d_end);(simp;exact Rz))|((first|((with_reducible apply O1);rfl)|((with_reducible apply O2);rfl)|((with_reducible apply P1);rfl)|((with_reducible apply P2);rfl)|((with_reducible apply P3);rfl)|((with_reducible apply P4);rfl)|((with_reducible apply P5);rfl));(simp (disch:=omega);exact Rz);exact Rz;(focus (first|(simp;done)|omega|(simp;omega))))|((with_reducible first|apply Z7|apply Z8|apply Z9);(simp (disch:=omega);exact Rz))|((with_reducible first|apply Z1|apply Z2|apply Z3|apply Z4|apply Z5|apply Z6);(simp (disch:=omega);exact Rz))|((with_reducible first|apply W1|apply W2|apply W3);(simp (disch:=omega);exact Rz))|((with_reducible apply P6);rfl;(simp (disch:=omega);exact Rz);exact Rz;(focus (first|(simp [pr];done)|(simp [pr];omega))))|((with_reducible apply P7);rfl;(simp (disch:=omega);exact Rz);exact Rz;(focus (simp [repast,pr,AOp.sem];done))))
  refine q_stay (.inr rfl) (by simp;exact Rz) ⟨rfl,rfl⟩
open Classical in
def tunS (s:Sc):List Nat:=if s.ok then TG s s.gs else []
open Classical in
def tunE (s:Sc):Int:=if s.ok then (if TG s s.gs=[] then 6 else 0) else 40
def shF (s:Sc) (g o w:Int):Int:=gr g w+o-(gr g w+o) % s.step
def rdV (s:Sc) (w:Int) (k:Nat):List AV:=[.int .i64 (shF s (s.gLo+k) (oLoF s (s.gLo+k) s.ts.length) w),.int .i64 (shF s (s.gLo+k) (oHiF s (s.gLo+k) s.ts.length) w)]
def rdsL (s:Sc) (w:Int) (L:List Nat):List AV:=L.flatMap (rdV s w)
def rdA:AC:=(.ops [⟨some 7,.alloc [.int .i64 0,.int .i64 0,.int .i64 0],none⟩,⟨none,.store (.t 7) 3 (.t 21),none⟩] (some [2,3,6,7]))
def rdT (B:Heap) (q2 q3 q4:Nat):List (Nat × AV):=[(2,.ptr q2 0),(3,.ptr q3 0),(4,.ptr q4 0),(5,.int .i64 0),(6,.ptr B.length 0),(20,.fn (.func F.scale_tunes_1) [] [.ptr (B.length+1) 0])]
def wLo (f:Nat→Int):Nat→Int
  | 0=>f 0
  | j+1=>min (wLo f j) (f (j+1))
def wHi (f:Nat→Int):Nat→Int
  | 0=>f 0
  | j+1=>max (wHi f j) (f (j+1))
open Classical in
def rdE (s:Sc) (w:Int):Int:=if s.ok then (if 0≤w∧w≤1000000 then (if TG s s.gs=[] then 6 else 0) else 2) else 40
def tgA (s:Sc) (i:Nat):Int:=s.gLo+((TG s s.gs).getD i 0:Nat)
def rdFL (s:Sc) (w:Int) (i:Nat):Int:=shF s (tgA s i) (oLoF s (tgA s i) s.ts.length) w
def rdFH (s:Sc) (w:Int) (i:Nat):Int:=shF s (tgA s i) (oHiF s (tgA s i) s.ts.length) w
open Classical in
def rdLo (s:Sc) (w:Int):Int:=if rdE s w=0 then wLo (rdFL s w) ((TG s s.gs).length-1) else 0
open Classical in
def rdHi (s:Sc) (w:Int):Int:=if rdE s w=0 then wHi (rdFH s w) ((TG s s.gs).length-1) else 0
theorem rd_cellsK {H:Heap} {id off n:Nat} {cs:List AV} {b:Bool} (hh:H[id]?=some (.cells cs b)) (ho:off+n≤cs.length):rd H id off n=some ((cs.drop off).take n):=by
  unfold rd;rw [hh];simp only [ho,if_true]
end Go.Proofs
end
