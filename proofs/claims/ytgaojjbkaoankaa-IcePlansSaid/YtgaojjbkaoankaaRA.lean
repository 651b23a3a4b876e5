/- Several texts as one. -/
import Derived.Test.YtgaojjbkaoankaaJA
import Derived.Test.YtgaojjbkaoankaaCC
import Derived.Test.YtgaojjbkaoankaaDD
/- Ice: what the reference says of covers. -/
namespace Go.Proofs
open Go.Abs
attribute [local simp] AOp.den AOpd.ev lk cellsOf rd_new rd_new0 rd_zero rd_succ wr_new wr_new0 wr_zero wr_succ splice fillA binA scal sliceCells List.length_append argsT AV.sc scL AObj.sc resV getAll AR.get AOp.slots opdSlots opdsSlots partSlots eqAt at_new0 at_new set_new0 set_new wrap64
set_option linter.unusedSimpArgs false
set_option linter.unusedVariables false
theorem c_r2within (H:Heap) (n lo hi:Int) {b:Bool} (hb:b=true↔lo≤n∧n≤hi):ACalls Try.prog F.ref02_within [.int .i64 n,.int .i64 lo,.int .i64 hi] H (fun v h'=>v=.bool b∧h'=H):=by
  refine acalls_of ok_ref02_within rfl fun hcl=>?_
  unfold ac_ref02_within zo
  simp only [argsT,Nat.zero_add,Nat.reduceAdd]
  by_cases h1:lo≤n
  · repeat (first|(with_reducible first|apply X1|apply X2|apply X3|apply X8)|((with_reducible apply e_end);(simp;exact Rz))|((with_reducible apply O1);rfl;(simp (disch:=omega) [h1];exact Rz);exact Rz;(focus (first|(simp;done)|omega|(simp;omega))))|((with_reducible apply Z7);(simp (disch:=omega) [h1];exact Rz)))
    refine q_stay (.inr rfl) (by simp;exact Rz) ⟨by rw [AV.bool.injEq,Bool.eq_iff_iff,hb];simp [h1],rfl⟩
  · repeat (first|(with_reducible first|apply X1|apply X2|apply X3|apply X8)|((with_reducible apply e_end);(simp;exact Rz))|((with_reducible apply O1);rfl;(simp (disch:=omega) [h1];exact Rz);exact Rz;(focus (first|(simp;done)|omega|(simp;omega))))|((with_reducible apply Z1);(simp (disch:=omega) [h1];exact Rz)))
    refine q_stay (.inr rfl) (by simp;exact Rz) ⟨by rw [AV.bool.injEq,Bool.eq_iff_iff,hb];simp [h1],rfl⟩
theorem c_r2spanned (H:Heap) (a c lo hi:Int) {b:Bool} (hb:b=true↔a≤c∧lo≤a∧c≤hi):ACalls Try.prog F.ref02_spanned [.agg [.int .i64 a,.int .i64 c],.int .i64 lo,.int .i64 hi] H (fun v h'=>v=.bool b∧h'=H):=by
  refine acalls_of ok_ref02_spanned rfl fun hcl=>?_
  unfold ac_ref02_spanned zo
  simp only [argsT,Nat.zero_add,Nat.reduceAdd]
  by_cases h1:lo≤a
  · by_cases h2:a≤c
    · repeat (first|(with_reducible first|apply X1|apply X2|apply X3|apply X8)|((with_reducible apply e_end);(simp;exact Rz))|((with_reducible apply O1);rfl;(simp (disch:=omega) [h1,h2];exact Rz);exact Rz;(focus (first|(simp;done)|omega|(simp;omega))))|((with_reducible apply Z7);(simp (disch:=omega) [h1,h2];exact Rz)))
      refine q_drop (.inr rfl) (by simp;exact Rz) (by simp) ⟨by rw [AV.bool.injEq,Bool.eq_iff_iff,hb];simp [h1,h2],rfl⟩
    · repeat (first|(with_reducible first|apply X1|apply X2|apply X3|apply X8)|((with_reducible apply e_end);(simp;exact Rz))|((with_reducible apply O1);rfl;(simp (disch:=omega) [h1,h2];exact Rz);exact Rz;(focus (first|(simp;done)|omega|(simp;omega))))|((with_reducible apply Z7);(simp (disch:=omega) [h1,h2];exact Rz))|((with_reducible apply Z1);(simp (disch:=omega) [h1,h2];exact Rz)))
      refine q_drop (.inr rfl) (by simp;exact Rz) (by simp) ⟨by rw [AV.bool.injEq,Bool.eq_iff_iff,hb];simp [h1,h2],rfl⟩
  · repeat (first|(with_reducible first|apply X1|apply X2|apply X3|apply X8)|((with_reducible apply e_end);(simp;exact Rz))|((with_reducible apply O1);rfl;(simp (disch:=omega) [h1];exact Rz);exact Rz;(focus (first|(simp;done)|omega|(simp;omega))))|((with_reducible apply Z1);(simp (disch:=omega) [h1];exact Rz)))
    refine q_drop (.inr rfl) (by simp;exact Rz) (by simp) ⟨by rw [AV.bool.injEq,Bool.eq_iff_iff,hb];simp [h1],rfl⟩
theorem c_r1Check (H:Heap) (l:List Str) (id off:Nat) (ex:Bool) (hs:rd H id off (l.length * 9)=some (l.flatMap Str.av)) (hn:(l.length:Int)<1000000) :
    ACalls Try.prog F.ref01_Check [.agg [.slice id off l.length 9 ex]] H (fun v h'=>h'=H∧∃ e:Int,v=.int .i64 e∧((validL l∧e=0)∨(¬ validL l∧e=10))):=by
  refine acalls_of ok_ref01_Check rfl fun hcl=>?_
  unfold ac_ref01_Check zo
  simp only [argsT,Nat.zero_add,Nat.reduceAdd]
  have hid:=rd_lt hs
  repeat (first|(with_reducible first|apply X1|apply X2|apply X8)|((with_reducible apply e_end);(simp;exact Rz))|((with_reducible apply O1);rfl;(simp (disch:=omega);exact Rz);exact Rz;(focus (first|(simp;done)|omega|(simp;omega)))))
  (with_reducible apply e_call);(simp;exact Rz);exact c_rTrack _ l id off ex (by rw [rd_old _ hid];exact hs) hn
  rintro _ _ ⟨rfl,b,rfl,hb⟩
  cases b with
  | false =>
    repeat (first|(with_reducible first|apply X1|apply X2|apply X3|apply X8|apply X9)|((with_reducible apply e_end);(simp;exact Rz))|((with_reducible apply O1);rfl;(simp (disch:=omega);exact Rz);exact Rz;(focus (first|(simp;done)|omega|(simp;omega))))|((with_reducible apply Z9);(simp (disch:=omega);exact Rz)))
    refine q_drop (.inr rfl) (by simp;exact Rz) (by simp) ⟨rfl,10,rfl,.inr ⟨(fun h=>by have:=hb.2 h;cases this),rfl⟩⟩
  | true =>
    repeat (first|(with_reducible first|apply X1|apply X2|apply X3|apply X5|apply X8)|((with_reducible apply e_end);(simp;exact Rz))|((with_reducible apply O1);rfl;(simp (disch:=omega);exact Rz);exact Rz;(focus (first|(simp;done)|omega|(simp;omega))))|((with_reducible apply W3);(simp (disch:=omega);exact Rz)))
    refine q_drop (.inr rfl) (by simp;exact Rz) (by simp) ⟨rfl,0,rfl,.inl ⟨hb.1 rfl,rfl⟩⟩
set_option maxHeartbeats 1000000 in
theorem c_r2Ice (H:Heap) (c:Cv) (p:Plc) (hp:CvAt H c p) (hn1:(c.bs.length:Int)<1000000) (hn2:(c.hs.length:Int)<1000000) {b:Bool} (hb:b=true↔c.ok p.tn) :
    ACalls Try.prog F.ref02_Ice [.agg (c.av p)] H (fun v h'=>v=.bool b∧h'=H):=by
  have hp1:=hp.t
  have hp2:=rd_lt hp.b
  have hp3:=rd_lt hp.h
  have hrb:=hp.b
  have hrh:=hp.h
  obtain⟨tid,toff,tex,tn,bid,boff,bex,hid,hoff,hex⟩:=p
  simp only [Cv.av] at *
  have fin:∀ x:Bool,(x=true↔c.ok tn)→AV.bool x=AV.bool b:=fun x hx=>by rw [AV.bool.injEq,Bool.eq_iff_iff,hx,hb]
  have no:¬ c.ok tn→AV.bool false=AV.bool b:=fun h=>fin false ⟨(fun h=>by cases h),fun h2=>absurd h2 h⟩
  clear hb
  refine acalls_of ok_ref02_Ice rfl fun hcl=>?_
  unfold ac_ref02_Ice zo
  simp only [argsT,Nat.zero_add,Nat.reduceAdd]
  by_cases hl:c.bs.length=tn
  rotate_left
  · have hl2:¬ (c.bs.length:Int)=tn:=by omega
    repeat (first|(with_reducible first|apply X1|apply X2|apply X3|apply X8|apply X9)|((with_reducible apply e_end);(simp;exact Rz))|((with_reducible apply O1);rfl;(simp (disch:=omega) [hl,hl2];exact Rz);exact Rz;(focus (first|(simp;done)|omega|(simp;omega))))|((with_reducible apply Z9);(simp (disch:=omega) [hl,hl2];exact Rz))|((with_reducible apply Z2);(simp (disch:=omega) [hl,hl2];exact Rz)))
    refine q_drop (.inr rfl) (by simp;exact Rz) (by simp) ⟨no (fun h=>hl h.len),rfl⟩
  subst hl
  obtain⟨b1,h1⟩:=bof (1≤(c.hs.length:Int)∧(c.hs.length:Int)≤8)
  obtain⟨b2,h2⟩:=bof (c.w1≤c.w2∧0≤c.w1∧c.w2≤20)
  obtain⟨b3,h3⟩:=bof (c.y1≤c.y2∧1≤c.y1∧c.y2≤100)
  obtain⟨b4,h4⟩:=bof (0≤c.rate∧c.rate≤100)
  obtain⟨b5,h5⟩:=bof (0≤c.lim∧c.lim≤2000)
  obtain⟨b6,h6⟩:=bof (0≤c.base∧c.base≤c.lim)
  repeat (first|(with_reducible first|apply X1|apply X2|apply X8)|((with_reducible apply e_end);(simp;exact Rz))|((with_reducible apply O1);rfl;(simp (disch:=omega);exact Rz);exact Rz;(focus (first|(simp;done)|omega|(simp;omega))))|((with_reducible apply Z7);(simp (disch:=omega);exact Rz)))
  (with_reducible apply e_call);(simp;exact Rz);exact c_r2within _ _ _ _ h1
  rintro _ _ ⟨rfl,rfl⟩
  cases b1 with
  | false =>
    repeat (first|(with_reducible first|apply X1|apply X2|apply X3|apply X8|apply X9)|((with_reducible apply e_end);(simp;exact Rz))|((with_reducible apply O1);rfl;(simp (disch:=omega);exact Rz);exact Rz;(focus (first|(simp;done)|omega|(simp;omega))))|((with_reducible first|apply Z7|apply Z9);(simp (disch:=omega);exact Rz))|((with_reducible apply Z2);(simp (disch:=omega);exact Rz)))
    refine q_drop (.inr rfl) (by simp;exact Rz) (by simp) ⟨no (fun h=>by have:=h1.2 ⟨by have:=h.hours;omega,by have:=h.hours;omega⟩;cases this),rfl⟩
  | true =>
  repeat (first|((with_reducible apply O1);rfl;(simp (disch:=omega);exact Rz);exact Rz;(focus (first|(simp;done)|omega|(simp;omega))))|((with_reducible apply Z7);(simp (disch:=omega);exact Rz)))
  (with_reducible apply e_call);(simp;exact Rz);exact c_r2spanned _ _ _ _ _ h2
  rintro _ _ ⟨rfl,rfl⟩
  cases b2 with
  | false =>
    repeat (first|(with_reducible first|apply X1|apply X2|apply X3|apply X8|apply X9)|((with_reducible apply e_end);(simp;exact Rz))|((with_reducible apply O1);rfl;(simp (disch:=omega);exact Rz);exact Rz;(focus (first|(simp;done)|omega|(simp;omega))))|((with_reducible first|apply Z7|apply Z9);(simp (disch:=omega);exact Rz))|((with_reducible apply Z2);(simp (disch:=omega);exact Rz)))
    refine q_drop (.inr rfl) (by simp;exact Rz) (by simp) ⟨no (fun h=>by have:=h2.2 h.rul.1;cases this),rfl⟩
  | true =>
  repeat (first|((with_reducible apply O1);rfl;(simp (disch:=omega);exact Rz);exact Rz;(focus (first|(simp;done)|omega|(simp;omega))))|((with_reducible apply Z7);(simp (disch:=omega);exact Rz)))
  (with_reducible apply e_call);(simp;exact Rz);exact c_r2spanned _ _ _ _ _ h3
  rintro _ _ ⟨rfl,rfl⟩
  cases b3 with
  | false =>
    repeat (first|(with_reducible first|apply X1|apply X2|apply X3|apply X8|apply X9)|((with_reducible apply e_end);(simp;exact Rz))|((with_reducible apply O1);rfl;(simp (disch:=omega);exact Rz);exact Rz;(focus (first|(simp;done)|omega|(simp;omega))))|((with_reducible first|apply Z7|apply Z9);(simp (disch:=omega);exact Rz))|((with_reducible apply Z2);(simp (disch:=omega);exact Rz)))
    refine q_drop (.inr rfl) (by simp;exact Rz) (by simp) ⟨no (fun h=>by have:=h3.2 h.rul.2.1;cases this),rfl⟩
  | true =>
  repeat (first|((with_reducible apply O1);rfl;(simp (disch:=omega);exact Rz);exact Rz;(focus (first|(simp;done)|omega|(simp;omega))))|((with_reducible apply Z7);(simp (disch:=omega);exact Rz)))
  (with_reducible apply e_call);(simp;exact Rz);exact c_r2within _ _ _ _ h4
  rintro _ _ ⟨rfl,rfl⟩
  cases b4 with
  | false =>
    repeat (first|(with_reducible first|apply X1|apply X2|apply X3|apply X8|apply X9)|((with_reducible apply e_end);(simp;exact Rz))|((with_reducible apply O1);rfl;(simp (disch:=omega);exact Rz);exact Rz;(focus (first|(simp;done)|omega|(simp;omega))))|((with_reducible first|apply Z7|apply Z9);(simp (disch:=omega);exact Rz))|((with_reducible apply Z2);(simp (disch:=omega);exact Rz)))
    refine q_drop (.inr rfl) (by simp;exact Rz) (by simp) ⟨no (fun h=>by have:=h4.2 h.rul.2.2.1;cases this),rfl⟩
  | true =>
  repeat (first|((with_reducible apply O1);rfl;(simp (disch:=omega);exact Rz);exact Rz;(focus (first|(simp;done)|omega|(simp;omega))))|((with_reducible apply Z7);(simp (disch:=omega);exact Rz)))
  (with_reducible apply e_call);(simp;exact Rz);exact c_r2within _ _ _ _ h5
  rintro _ _ ⟨rfl,rfl⟩
  cases b5 with
  | false =>
    repeat (first|(with_reducible first|apply X1|apply X2|apply X3|apply X8|apply X9)|((with_reducible apply e_end);(simp;exact Rz))|((with_reducible apply O1);rfl;(simp (disch:=omega);exact Rz);exact Rz;(focus (first|(simp;done)|omega|(simp;omega))))|((with_reducible first|apply Z7|apply Z9);(simp (disch:=omega);exact Rz))|((with_reducible apply Z2);(simp (disch:=omega);exact Rz)))
    refine q_drop (.inr rfl) (by simp;exact Rz) (by simp) ⟨no (fun h=>by have:=h5.2 h.rul.2.2.2.1;cases this),rfl⟩
  | true =>
  repeat (first|((with_reducible apply O1);rfl;(simp (disch:=omega);exact Rz);exact Rz;(focus (first|(simp;done)|omega|(simp;omega))))|((with_reducible apply Z7);(simp (disch:=omega);exact Rz)))
  (with_reducible apply e_call);(simp;exact Rz);exact c_r2within _ _ _ _ h6
  rintro _ _ ⟨rfl,rfl⟩
  cases b6 with
  | false =>
    repeat (first|(with_reducible first|apply X1|apply X2|apply X3|apply X8|apply X9)|((with_reducible apply e_end);(simp;exact Rz))|((with_reducible apply O1);rfl;(simp (disch:=omega);exact Rz);exact Rz;(focus (first|(simp;done)|omega|(simp;omega))))|((with_reducible first|apply Z7|apply Z9);(simp (disch:=omega);exact Rz)))
    refine q_drop (.inr rfl) (by simp;exact Rz) (by simp) ⟨no (fun h=>by have:=h6.2 h.rul.2.2.2.2;cases this),rfl⟩
  | true =>
  have hrul:c.ruled:=⟨h2.1 rfl,h3.1 rfl,h4.1 rfl,h5.1 rfl,h6.1 rfl⟩
  have hhrs:=h1.1 rfl
  repeat (first|(with_reducible first|apply X1|apply X2|apply X5|apply X6|apply X8)|((with_reducible apply e_end);(simp;exact Rz))|((with_reducible apply O1);rfl;(simp (disch:=omega);exact Rz);exact Rz;(focus (first|(simp;done)|omega|(simp;omega))))|((with_reducible apply Z7);(simp (disch:=omega);exact Rz))|((with_reducible apply W3);(simp (disch:=omega);exact Rz)))
  refine e_loop (ι:={ i:Nat // i≤c.bs.length∧∀ j (hj:j<c.bs.length),j<i→c.bs[j].ok })
    (fun i=>[(1,.ptr H.length 0),(3,.int .i64 i.1)]) (fun _=>H++[.cells (c.av ⟨tid,toff,tex,c.bs.length,bid,boff,bex,hid,hoff,hex⟩) true]) (fun i=>c.bs.length-i.1) ⟨0,by simp⟩ ?_ ?_
  · simp only [Cv.av];exact .inl rfl
  · rintro⟨i,hi1,hi2⟩
    simp only [Cv.av]
    by_cases hlt:i<c.bs.length
    · have hlt2:(i:Int)<c.bs.length:=by omega
      have hx0:=rd_row Bd.av_length hrb hlt
      have hbk:c.ok c.bs.length→(c.bs[i]).ok:=fun h=>h.bok i hlt
      have hnx:(c.bs[i]).ok→∀ j (hj:j<c.bs.length),j<i+1→c.bs[j].ok:=fun h j hj hji=>by
        rcases Nat.lt_or_ge j i with h1|h1
        · exact hi2 j hj h1
        · obtain rfl:j=i:=by omega
          exact h
      generalize c.bs[i]=s at hx0 hbk hnx
      obtain⟨a1,a2,a3⟩:=s
      have hx:=rd_sub' hx0 0 2 (by omega)
      have hy:=rd_sub' hx0 2 1 (by omega)
      simp only [Bd.av,List.drop_succ_cons,List.drop_zero,List.take_succ_cons,List.take_zero,Nat.add_zero] at hx hy
      obtain⟨b1,h1⟩:=bof (a1≤a2∧0≤a1∧a2≤2000)
      obtain⟨b2,h2⟩:=bof (0≤a3∧a3≤9)
      repeat (first|(with_reducible first|apply X1|apply X2|apply X5|apply X6|apply X8)|((with_reducible apply e_end);(simp;exact Rz))|((with_reducible apply O1);rfl;(simp (disch:=omega) [hlt,hlt2,rd_old _ hp2,hx];exact Rz);exact Rz;(focus (first|(simp;done)|omega|(simp;omega))))|((with_reducible apply Z9);(simp (disch:=omega) [hlt,hlt2,rd_old _ hp2,hx];exact Rz)))
      (with_reducible apply e_call);(simp;exact Rz);exact c_r2spanned _ _ _ _ _ h1
      rintro _ _ ⟨rfl,rfl⟩
      cases b1 with
      | false =>
        repeat (first|(with_reducible first|apply X1|apply X2|apply X3|apply X8|apply X9|apply Y3|apply Y5)|((with_reducible apply e_end);(simp;exact Rz))|((with_reducible apply O1);rfl;(simp (disch:=omega);exact Rz);exact Rz;(focus (first|(simp;done)|omega|(simp;omega))))|((with_reducible apply Z9);(simp (disch:=omega);exact Rz))|((with_reducible apply Z2);(simp (disch:=omega);exact Rz)))
        refine q_drop (.inr rfl) (by simp;exact Rz) (by simp) ⟨no (fun h=>by have:=h1.2 (hbk h).1;cases this),rfl⟩
      | true =>
      repeat (first|((with_reducible apply O1);rfl;(simp (disch:=omega) [hlt,hlt2,rd_old _ hp2,hy];exact Rz);exact Rz;(focus (first|(simp;done)|omega|(simp;omega))))|((with_reducible apply Z7);(simp (disch:=omega) [hlt,hlt2,rd_old _ hp2,hy];exact Rz)))
      (with_reducible apply e_call);(simp;exact Rz);exact c_r2within _ _ _ _ h2
      rintro _ _ ⟨rfl,rfl⟩
      cases b2 with
      | false =>
        repeat (first|(with_reducible first|apply X1|apply X2|apply X3|apply X8|apply X9|apply Y3|apply Y5)|((with_reducible apply e_end);(simp;exact Rz))|((with_reducible apply O1);rfl;(simp (disch:=omega);exact Rz);exact Rz;(focus (first|(simp;done)|omega|(simp;omega))))|((with_reducible first|apply Z7|apply Z9);(simp (disch:=omega);exact Rz)))
        refine q_drop (.inr rfl) (by simp;exact Rz) (by simp) ⟨no (fun h=>by have:=h2.2 (hbk h).2;cases this),rfl⟩
      | true =>
      repeat (first|(with_reducible first|apply X2|apply X5|apply X8|apply Y2)|((with_reducible apply e_end);(simp;exact Rz))|((with_reducible apply O1);rfl;(simp (disch:=omega);exact Rz);exact Rz;(focus (first|(simp;done)|omega|(simp;omega))))|((with_reducible apply Z7);(simp (disch:=omega);exact Rz))|((with_reducible apply W3);(simp (disch:=omega);exact Rz)))
      refine q_again ⟨i+1,hlt,hnx ⟨h1.1 rfl,h2.1 rfl⟩⟩ (by dsimp only;omega) (.inl (by simp))
    · have hlt2:¬ (i:Int)<c.bs.length:=by omega
      have hbok:∀ j (hj:j<c.bs.length),c.bs[j].ok:=fun j hj=>hi2 j hj (by omega)
      repeat (first|(with_reducible first|apply X1|apply X2|apply X4|apply X6|apply X8|apply Y1|apply Y4|apply Y6)|((with_reducible apply e_end);(simp;exact Rz))|((with_reducible apply O1);rfl;(simp (disch:=omega) [hlt2];exact Rz);exact Rz;(focus (first|(simp;done)|omega|(simp;omega))))|((with_reducible apply W3);(simp (disch:=omega) [hlt2];exact Rz)))
      refine e_loop (ι:={ i:Nat // i≤c.hs.length∧∀ j (hj:j<c.hs.length),j<i→c.hs[j].ok })
        (fun i=>[(1,.ptr H.length 0),(4,.int .i64 i.1)]) (fun _=>H++[.cells (c.av ⟨tid,toff,tex,c.bs.length,bid,boff,bex,hid,hoff,hex⟩) true]) (fun i=>c.hs.length-i.1) ⟨0,by simp⟩ ?_ ?_
      · simp only [Cv.av];exact .inl rfl
      · rintro⟨i,hi1,hi2⟩
        simp only [Cv.av]
        by_cases hlt:i<c.hs.length
        · have hlt2:(i:Int)<c.hs.length:=by omega
          have hx:=rd_row Hr.av_length hrh hlt
          have hbk:c.ok c.bs.length→(c.hs[i]).ok:=fun h=>h.hok i hlt
          have hnx:(c.hs[i]).ok→∀ j (hj:j<c.hs.length),j<i+1→c.hs[j].ok:=fun h j hj hji=>by
            rcases Nat.lt_or_ge j i with h1|h1
            · exact hi2 j hj h1
            · obtain rfl:j=i:=by omega
              exact h
          generalize c.hs[i]=s at hx hbk hnx
          obtain⟨a1,a2,a3,a4,a5⟩:=s
          simp only [Hr.av] at hx
          obtain⟨b1,h1⟩:=bof (a1≤a2∧0≤a1∧a2≤50)
          obtain⟨b2,h2⟩:=bof (0≤a3∧a3≤60)
          obtain⟨b3,h3⟩:=bof (0≤a4∧a4≤12)
          repeat (first|(with_reducible first|apply X1|apply X2|apply X5|apply X6|apply X8)|((with_reducible apply e_end);(simp;exact Rz))|((first|((with_reducible apply O1);rfl)|((with_reducible apply O2);rfl));(simp (disch:=omega) [hlt,hlt2,rd_old _ hp3,hx];exact Rz);exact Rz;(focus (first|(simp;done)|omega|(simp;omega))))|((with_reducible apply Z9);(simp (disch:=omega) [hlt,hlt2,rd_old _ hp3,hx];exact Rz)))
          (with_reducible apply e_call);(simp;exact Rz);exact c_r2spanned _ _ _ _ _ h1
          rintro _ _ ⟨rfl,rfl⟩
          cases b1 with
          | false =>
            repeat (first|(with_reducible first|apply X1|apply X2|apply X3|apply X8|apply X9|apply Y3|apply Y5)|((with_reducible apply e_end);(simp;exact Rz))|((with_reducible apply O1);rfl;(simp (disch:=omega);exact Rz);exact Rz;(focus (first|(simp;done)|omega|(simp;omega))))|((with_reducible apply Z9);(simp (disch:=omega);exact Rz))|((with_reducible apply Z2);(simp (disch:=omega);exact Rz)))
            refine q_drop (.inr rfl) (by simp;exact Rz) (by simp) ⟨no (fun h=>by have:=h1.2 (hbk h).1;cases this),rfl⟩
          | true =>
          repeat (first|((with_reducible apply O1);rfl;(simp (disch:=omega);exact Rz);exact Rz;(focus (first|(simp;done)|omega|(simp;omega))))|((with_reducible apply Z7);(simp (disch:=omega);exact Rz)))
          (with_reducible apply e_call);(simp;exact Rz);exact c_r2within _ _ _ _ h2
          rintro _ _ ⟨rfl,rfl⟩
          cases b2 with
          | false =>
            repeat (first|(with_reducible first|apply X1|apply X2|apply X3|apply X8|apply X9|apply Y3|apply Y5)|((with_reducible apply e_end);(simp;exact Rz))|((with_reducible apply O1);rfl;(simp (disch:=omega);exact Rz);exact Rz;(focus (first|(simp;done)|omega|(simp;omega))))|((with_reducible first|apply Z7|apply Z9);(simp (disch:=omega);exact Rz))|((with_reducible apply Z2);(simp (disch:=omega);exact Rz)))
            refine q_drop (.inr rfl) (by simp;exact Rz) (by simp) ⟨no (fun h=>by have:=h2.2 (hbk h).2.1;cases this),rfl⟩
          | true =>
          repeat (first|((with_reducible apply O1);rfl;(simp (disch:=omega);exact Rz);exact Rz;(focus (first|(simp;done)|omega|(simp;omega))))|((with_reducible apply Z7);(simp (disch:=omega);exact Rz)))
          (with_reducible apply e_call);(simp;exact Rz);exact c_r2within _ _ _ _ h3
          rintro _ _ ⟨rfl,rfl⟩
          cases b3 with
          | false =>
            repeat (first|(with_reducible first|apply X1|apply X2|apply X3|apply X8|apply X9|apply Y3|apply Y5)|((with_reducible apply e_end);(simp;exact Rz))|((with_reducible apply O1);rfl;(simp (disch:=omega);exact Rz);exact Rz;(focus (first|(simp;done)|omega|(simp;omega))))|((with_reducible first|apply Z7|apply Z9);(simp (disch:=omega);exact Rz)))
            refine q_drop (.inr rfl) (by simp;exact Rz) (by simp) ⟨no (fun h=>by have:=h3.2 (hbk h).2.2;cases this),rfl⟩
          | true =>
          repeat (first|(with_reducible first|apply X2|apply X5|apply X8|apply Y2)|((with_reducible apply e_end);(simp;exact Rz))|((with_reducible apply O1);rfl;(simp (disch:=omega);exact Rz);exact Rz;(focus (first|(simp;done)|omega|(simp;omega))))|((with_reducible apply Z7);(simp (disch:=omega);exact Rz))|((with_reducible apply W3);(simp (disch:=omega);exact Rz)))
          refine q_again ⟨i+1,hlt,hnx ⟨h1.1 rfl,h2.1 rfl,h3.1 rfl⟩⟩ (by dsimp only;omega) (.inr (le_take (G:=[_]) (by simp;omega) (by simp [Red])))
        · have hlt2:¬ (i:Int)<c.hs.length:=by omega
          have hhok:∀ j (hj:j<c.hs.length),c.hs[j].ok:=fun j hj=>hi2 j hj (by omega)
          repeat (first|(with_reducible first|apply X1|apply X2|apply X3|apply X4|apply X8|apply Y1|apply Y4|apply Y6)|((with_reducible apply e_end);(simp;exact Rz))|((with_reducible apply O1);rfl;(simp (disch:=omega) [hlt2];exact Rz);exact Rz;(focus (first|(simp;done)|omega|(simp;omega))))|((with_reducible apply W3);(simp (disch:=omega) [hlt2];exact Rz)))
          refine q_drop (.inr rfl) (by simp;exact Rz) (by simp) ⟨fin true ⟨fun _=>⟨rfl,by omega,hbok,hhok,hrul⟩,fun _=>rfl⟩,rfl⟩
theorem c_r2Check (H:Heap) (l:List Str) (c:Cv) (p:Plc) (hp:CvAt H c p) (ht:TrAt H l p) (hn:(l.length:Int)<1000000) (hn1:(c.bs.length:Int)<1000000) (hn2:(c.hs.length:Int)<1000000) :
    ACalls Try.prog F.ref02_Check [.agg (c.av p)] H (fun v h'=>h'=H∧∃ e:Int,v=.int .i64 e∧chkE l c e):=by
  obtain⟨b1,h1⟩:=bof (c.ok p.tn)
  have k0:=fun G=>c_r1Check (H++G) l p.tid p.toff p.tex (by rw [rd_old _ (rd_lt ht.t)];exact ht.t) hn
  have k1:=fun G=>c_r2Ice (H++G) c p (hp.app G) hn1 hn2 h1
  have hp1:=hp.t
  have hp2:=rd_lt hp.b
  have hp3:=rd_lt hp.h
  have htn:=ht.n
  rw [← htn] at k0
  simp only [Cv.av] at *
  refine acalls_of ok_ref02_Check rfl fun hcl=>?_
  unfold ac_ref02_Check zo
  simp only [argsT,Nat.zero_add,Nat.reduceAdd]
  repeat (first|(with_reducible first|apply X1|apply X2|apply X8)|((with_reducible apply e_end);(simp;exact Rz))|((with_reducible apply O1);rfl;(simp (disch:=omega);exact Rz);exact Rz;(focus (first|(simp;done)|omega|(simp;omega)))))
  (with_reducible apply e_call);(simp;exact Rz);exact k0 _
  rintro _ _ ⟨rfl,e,rfl,⟨hv,rfl⟩|⟨hv,rfl⟩⟩
  rotate_left
  · repeat (first|(with_reducible first|apply X1|apply X2|apply X3|apply X8|apply X9)|((with_reducible apply e_end);(simp;exact Rz))|((with_reducible apply O1);rfl;(simp (disch:=omega);exact Rz);exact Rz;(focus (first|(simp;done)|omega|(simp;omega))))|((with_reducible apply Z9);(simp (disch:=omega);exact Rz)))
    refine q_drop (.inr rfl) (by simp;exact Rz) (by simp) ⟨rfl,10,rfl,.inr (.inl ⟨hv,rfl⟩)⟩
  repeat (first|(with_reducible first|apply X1|apply X2|apply X5|apply X8)|((with_reducible apply e_end);(simp;exact Rz))|((with_reducible apply O1);rfl;(simp (disch:=omega);exact Rz);exact Rz;(focus (first|(simp;done)|omega|(simp;omega))))|((with_reducible apply W3);(simp (disch:=omega);exact Rz)))
  (with_reducible apply e_call);(simp;exact Rz);exact k1 _
  rintro _ _ ⟨rfl,rfl⟩
  cases b1 with
  | false =>
    repeat (first|(with_reducible first|apply X1|apply X2|apply X3|apply X8|apply X9)|((with_reducible apply e_end);(simp;exact Rz))|((with_reducible apply O1);rfl;(simp (disch:=omega);exact Rz);exact Rz;(focus (first|(simp;done)|omega|(simp;omega))))|((with_reducible apply Z9);(simp (disch:=omega);exact Rz)))
    refine q_drop (.inr rfl) (by simp;exact Rz) (by simp) ⟨rfl,20,rfl,.inr (.inr ⟨hv,(fun h=>by rw [← htn] at h;have:=h1.2 h;cases this),rfl⟩)⟩
  | true =>
    repeat (first|(with_reducible first|apply X1|apply X2|apply X3|apply X5|apply X8)|((with_reducible apply e_end);(simp;exact Rz))|((with_reducible apply O1);rfl;(simp (disch:=omega);exact Rz);exact Rz;(focus (first|(simp;done)|omega|(simp;omega))))|((with_reducible apply W3);(simp (disch:=omega);exact Rz)))
    refine q_drop (.inr rfl) (by simp;exact Rz) (by simp) ⟨rfl,0,rfl,.inl ⟨hv,by rw [← htn];exact h1.1 rfl,rfl⟩⟩
theorem c_r2GreatN (H:Heap) (c:Cv) (p:Plc) (hp:CvAt H c p) (hn:(p.tn:Int)≤9223372036854775807) (hn1:(c.bs.length:Int)≤9223372036854775807) (hn2:(c.hs.length:Int)≤9223372036854775807) {b:Bool} (hb:b=true↔(20<p.tn∨20<c.bs.length∨12<c.hs.length)) :
    ACalls Try.prog F.ref02_Great [.agg (c.av p),.nilslice] H (fun v h'=>v=.bool b∧h'=H):=by
  have hp1:=hp.t
  have hp2:=rd_lt hp.b
  have hp3:=rd_lt hp.h
  have k0:=fun G=>c_great (H++G) p.tid p.toff p.tn p.tex (by simp;omega)
  have fin:∀ x:Bool,(x=true↔(20<p.tn∨20<c.bs.length∨12<c.hs.length))→AV.bool x=AV.bool b:=fun x hx=>by rw [AV.bool.injEq,Bool.eq_iff_iff,hx,hb]
  simp only [Cv.av] at *
  refine acalls_of ok_ref02_Great rfl fun hcl=>?_
  unfold ac_ref02_Great zo
  simp only [argsT,Nat.zero_add,Nat.reduceAdd]
  repeat (first|(with_reducible first|apply X1|apply X2|apply X8)|((with_reducible apply e_end);(simp;exact Rz))|((with_reducible apply O1);rfl;(simp (disch:=omega);exact Rz);exact Rz;(focus (first|(simp;done)|omega|(simp;omega)))))
  (with_reducible apply e_call);(simp;exact Rz);exact k0 _
  rintro _ _ ⟨rfl,rfl⟩
  by_cases h1:20<p.tn
  · repeat (first|(with_reducible first|apply X1|apply X2|apply X3|apply X8|apply X9)|((with_reducible apply e_end);(simp;exact Rz))|((with_reducible apply O1);rfl;(simp (disch:=omega) [h1];exact Rz);exact Rz;(focus (first|(simp;done)|omega|(simp;omega))))|((with_reducible apply Z9);(simp (disch:=omega) [h1];exact Rz))|((with_reducible apply Z2);(simp (disch:=omega) [h1];exact Rz)))
    refine q_drop (.inr rfl) (by simp;exact Rz) (by simp) ⟨fin true (by simp [h1]),rfl⟩
  by_cases h2:20<c.bs.length
  · have h22:(20:Int)<c.bs.length:=by omega
    repeat (first|(with_reducible first|apply X1|apply X2|apply X3|apply X8|apply X9)|((with_reducible apply e_end);(simp;exact Rz))|((with_reducible apply O1);rfl;(simp (disch:=omega) [h1,h22];exact Rz);exact Rz;(focus (first|(simp;done)|omega|(simp;omega))))|((with_reducible first|apply Z7|apply Z9);(simp (disch:=omega) [h1,h22];exact Rz))|((with_reducible apply Z2);(simp (disch:=omega) [h1,h22];exact Rz)))
    refine q_drop (.inr rfl) (by simp;exact Rz) (by simp) ⟨fin true (by simp [h1,h2]),rfl⟩
  by_cases h3:12<c.hs.length
  · have h22:¬ (20:Int)<c.bs.length:=by omega
    have h32:(12:Int)<c.hs.length:=by omega
    repeat (first|(with_reducible first|apply X1|apply X2|apply X3|apply X8|apply X9)|((with_reducible apply e_end);(simp;exact Rz))|((with_reducible apply O1);rfl;(simp (disch:=omega) [h1,h22,h32];exact Rz);exact Rz;(focus (first|(simp;done)|omega|(simp;omega))))|((with_reducible first|apply Z7|apply Z9);(simp (disch:=omega) [h1,h22,h32];exact Rz))|((with_reducible apply Z2);(simp (disch:=omega) [h1,h22,h32];exact Rz)))
    refine q_drop (.inr rfl) (by simp;exact Rz) (by simp) ⟨fin true (by simp [h1,h2,h3]),rfl⟩
  have h22:¬ (20:Int)<c.bs.length:=by omega
  have h32:¬ (12:Int)<c.hs.length:=by omega
  repeat (first|(with_reducible first|apply X1|apply X2|apply X5|apply X6|apply X8)|((with_reducible apply e_end);(simp;exact Rz))|((with_reducible apply O1);rfl;(simp (disch:=omega) [h1,h22,h32];exact Rz);exact Rz;(focus (first|(simp;done)|omega|(simp;omega))))|((with_reducible apply Z7);(simp (disch:=omega) [h1,h22,h32];exact Rz))|((with_reducible apply W3);(simp (disch:=omega) [h1,h22,h32];exact Rz)))
  refine e_loop (ι:=Unit) (fun _=>[(1,.nilslice),(5,.int .i64 0)]) (fun _=>H++[.cells (c.av p) true]) (fun _=>0) () ?_ ?_
  · simp only [Cv.av];exact .inl rfl
  · intro _
    simp only [Cv.av]
    repeat (first|(with_reducible first|apply X1|apply X2|apply X3|apply X4|apply X8|apply Y1|apply Y4|apply Y6)|((with_reducible apply e_end);(simp;exact Rz))|((with_reducible apply O1);rfl;(simp (disch:=omega);exact Rz);exact Rz;(focus (first|(simp;done)|omega|(simp;omega))))|((with_reducible apply W3);(simp (disch:=omega);exact Rz)))
    refine q_drop (.inr rfl) (by simp;exact Rz) (by simp) ⟨fin false (by simp;omega),rfl⟩
def rwV (vs:Nat→AV) (n:Nat):List AV:=(List.range n).map vs
theorem rwV_length (vs:Nat→AV) (n:Nat):(rwV vs n).length=n:=by simp [rwV]
theorem rwV_at (vs:Nat→AV) {n h:Nat} (hh:h<n):((rwV vs n).drop h).take 1=[vs h]:=by
  apply List.ext_getElem
  · simp [rwV];omega
  · intro k h1 h2
    simp only [List.length_cons,List.length_nil] at h2
    obtain rfl:k=0:=by omega
    simp [rwV]
def updV (vs:Nat→AV) (h:Nat) (v:AV) (k:Nat):AV:=if k=h then v else vs k
theorem rwV_put (vs:Nat→AV) {n h:Nat} (hh:h<n) (v:AV):splice (rwV vs n) h [v]=rwV (updV vs h v) n:=by
  have e:n=h+1+(n-h-1):=by omega
  have e1:rwV (updV vs h v) h=rwV vs h:=by
    apply List.map_congr_left
    intro k hk
    have:=List.mem_range.1 hk
    simp only [updV];rw [if_neg (by omega)]
  have sp:∀ (f:Nat→AV) (m:Nat),rwV f (h+1+m)=rwV f h++[f h]++(List.range m).map (fun k=>f (h+1+k)):=by
    intro f m
    simp only [rwV,List.range_add,List.map_append,List.map_map,List.range_one,List.map_cons,List.map_nil,Nat.add_zero]
    congr 1
  have t1:=sp vs (n-h-1)
  have t2:=sp (updV vs h v) (n-h-1)
  rw [← e] at t1 t2
  have l1:(rwV vs h).length=h:=rwV_length _ _
  rw [t1,t2,e1]
  have u1:updV vs h v h=v:=by simp [updV]
  have u2:(List.range (n-h-1)).map (fun k=>updV vs h v (h+1+k))=(List.range (n-h-1)).map (fun k=>vs (h+1+k)):=by
    apply List.map_congr_left
    intro k _
    simp only [updV];rw [if_neg (by omega)]
  rw [u1,u2]
  generalize (List.range (n-h-1)).map (fun k=>vs (h+1+k))=R
  have t3:(rwV vs h++[vs h]++R).take h=rwV vs h:=by rw [List.append_assoc];exact List.take_left' l1
  have t4:(rwV vs h++[vs h]++R).drop (h+1)=R:=List.drop_left' (by simp [l1])
  simp only [splice,List.length_cons,List.length_nil,Nat.zero_add]
  rw [t3,t4]
theorem rwV_nil (n:Nat):List.replicate n AV.nilslice=rwV (fun _=>.nilslice) n:=by
  induction n with
  | zero=>rfl
  | succ n ih => 
    rw [List.replicate_succ',ih]
    simp [rwV,List.range_succ]
theorem AAt.keep {h h':Heap} {sz:Nat} {v:AV} {cs:List AV} {n:Nat} (hl:AAt h sz v cs n) (hk:∀ i,isId v i→h'[i]?=h[i]?):AAt h' sz v cs n:=by
  obtain⟨hc,h1|⟨id,h0,rfl,hh⟩⟩:=hl
  · exact⟨hc,.inl h1⟩
  · exact⟨hc,.inr ⟨id,h0,rfl,by rw [hk id rfl];exact hh⟩⟩
structure Rows (H:Heap) (box:AObj) (n:Nat) (L:Nat→List Int) (vs:Nat→AV) (G:Heap):Prop where
  at_:∀ k,k<n→AAt (H++box :: AObj.cells (rwV vs n) true :: G) 1 (vs k) (iv (L k)) (L k).length
  lo:∀ k,k<n→∀ i,isId (vs k) i→H.length+2≤i
  ne:∀ k j,k<n→j<n→k≠j→∀ i,isId (vs k) i→¬ isId (vs j) i
theorem Rows.nil (H:Heap) (box:AObj) (n:Nat) (L:Nat→List Int) (hL:∀ k,k<n→L k=[]):Rows H box n L (fun _=>.nilslice) [] :=
  ⟨fun k hk=>by rw [hL k hk];exact AAt.nil _ _,fun k hk i hi=>hi.elim,fun k j hk hj hne i hi=>hi.elim⟩
theorem get3 {H:Heap} {a b b':AObj} {G:Heap} {i:Nat} (h:H.length+2≤i):(H++a :: b :: G)[i]?=(H++a :: b' :: G)[i]?:=by
  rw [List.getElem?_append_right (by omega),List.getElem?_append_right (by omega)]
  obtain⟨k,hk⟩:∃ k,i-H.length=k+2:=⟨i-H.length-2,by omega⟩
  rw [hk];rfl
theorem get4 {H:Heap} {a b:AObj} {G T:Heap} {i:Nat} (h:i<H.length+(G.length+2)):(H++a :: b :: (G++T))[i]?=(H++a :: b :: G)[i]?:=by
  rw [show H++a :: b :: (G++T)=(H++a :: b :: G)++T by simp,List.getElem?_append_left (by simp;omega)]
theorem Rows.congr {H:Heap} {box:AObj} {n:Nat} {L L':Nat→List Int} {vs:Nat→AV} {G:Heap} (h:Rows H box n L vs G) (hL:∀ k,k<n→L' k=L k):Rows H box n L' vs G :=
  ⟨fun k hk=>by rw [hL k hk];exact h.at_ k hk,h.lo,h.ne⟩
def bdR (c:Cv) (j:Nat):List AV:=(c.b j).av
def hrR (c:Cv) (j:Nat):List AV:=(c.h j).av
theorem plain_bd (c:Cv):PlainRow 3 (bdR c):=⟨fun _=>rfl,fun _=>⟨rfl,fun _=>rfl,fun _=>rfl⟩⟩
theorem plain_hr (c:Cv):PlainRow 5 (hrR c):=⟨fun _=>rfl,fun _=>⟨rfl,fun _=>rfl,fun _=>rfl⟩⟩
theorem map_at {α:Type} (l:List α) (f:Nat→α) (h:∀ i (hi:i<l.length),f i=l[i]):(List.range l.length).map f=l:=by
  apply List.ext_getElem
  · simp
  · intro i h1 h2;simp [h i h2]
theorem flat_bd (c:Cv):c.bs.flatMap Bd.av=avR (bdR c) c.bs.length:=by
  conv=>lhs;rw [← map_at c.bs c.b fun i hi=>Cv.b_eq hi]
  simp only [List.flatMap_map,avR];rfl
theorem flat_hr (c:Cv):c.hs.flatMap Hr.av=avR (hrR c) c.hs.length:=by
  conv=>lhs;rw [← map_at c.hs c.h fun i hi=>Cv.h_eq hi]
  simp only [List.flatMap_map,avR];rfl
def twP (H:Heap) (tn:Nat):Plc:=⟨H.length,0,false,tn,H.length+1,0,false,H.length+2,0,false⟩
theorem c_r2Twin (H:Heap) (l:List Str) (c:Cv) (p:Plc) (hp:CvAt H c p) (ht:TrAt H l p) (hn:l.length≤1000) (hn1:c.bs.length≤1000) (hn2:c.hs.length≤1000) :
    ACalls Try.prog F.ref02_Twin [.agg (c.av p)] H (fun v h'=>v=.agg (c.av (twP H l.length))∧h'=H++[.cells (l.flatMap Str.av) true,.cells (c.bs.flatMap Bd.av) true,.cells (c.hs.flatMap Hr.av) true]):=by
  have k0:=fun G=>c_Twin (H++G) l p.tid p.toff p.tex (by rw [rd_old _ (rd_lt ht.t)];exact ht.t) hn
  have hp1:=hp.t
  have hp2:=rd_lt hp.b
  have hp3:=rd_lt hp.h
  have hrb:=hp.b
  have hrh:=hp.h
  have htn:=ht.n
  have p1:=(plain_bd c).plain c.bs.length
  have p2:=(plain_hr c).plain c.hs.length
  have p0:=(plain_str l).plain l.length
  rw [← flat_bd] at p1
  rw [← flat_hr] at p2
  rw [← flat_eq] at p0
  simp only [Cv.av,twP,htn] at *
  refine acalls_of ok_ref02_Twin rfl fun hcl=>?_
  unfold ac_ref02_Twin zo
  simp only [argsT,Nat.zero_add,Nat.reduceAdd]
  repeat (first|(with_reducible first|apply X1|apply X2|apply X8)|((with_reducible apply e_end);(simp;exact Rz))|((with_reducible apply O1);rfl;(simp (disch:=omega);exact Rz);exact Rz;(focus (first|(simp;done)|omega|(simp;omega)))))
  (with_reducible apply e_call);(simp;exact Rz);exact k0 _
  rintro _ _ ⟨rfl,rfl⟩
  repeat (first|(with_reducible first|apply X1|apply X2|apply X3|apply X8)|((with_reducible apply e_end);(simp;exact Rz))|((first|((with_reducible apply O1);rfl)|((with_reducible apply O2);rfl));(simp (disch:=omega) [rd_old _ hp2,hrb,p1.scal,rd_old _ hp3,hrh,p2.scal];exact Rz);exact Rz;(focus (first|(simp;done)|omega|(simp;omega)))))
  exact q_post (v':=.agg [.slice H.length 0 l.length 9 false,.slice (H.length+1) 0 c.bs.length 3 false,.slice (H.length+2) 0 c.hs.length 5 false,.int .i64 c.w1,.int .i64 c.w2,.int .i64 c.y1,.int .i64 c.y2,.int .i64 c.rate,.int .i64 c.lim,.int .i64 c.base]) (.inr rfl) (by simp;exact Rz)
    (le_plain [2,4,6] _ (by simp) rfl (by simp;exact⟨p0.o _,p1.o _,p2.o _⟩) (by simp [sh,AV.ren,renL])) ⟨rfl,rfl⟩
def Cv.till (c:Cv) (k:Nat):Cv:={ c with hs:=c.hs.take k }
theorem gen_ops {P:Program} {l:List AO} {K:St→Prop} {t:List (Nat × AV)} {h:Heap} (F:List (Nat × AV)→Heap→Prop) (hF:F t h) (hn:∀ t h,F t h→EOps P l K t h):EOps P l K t h:=hn t h hF
def waL (r:Int) (g:Nat→Int) (l:List Int):Nat→Int
  | 0=>0
  | k+1=>waL r g l k+r * g (l.getD k 0).toNat
def waP (r:Int) (g:Nat→Int) (L:Nat→List Int):Nat→Int
  | 0=>0
  | h+1=>waP r g L h+waL r g (L h) (L h).length
def waterG (l:List Str) (c:Cv) (n:Nat) (L:Nat→List Int) (lo hi e:Int):Prop :=
  (plE l c n L e∧e≠0∧lo=0∧hi=0)∨(validL l∧c.ok l.length∧(n=c.hs.length∧okPl c L)∧e=0∧lo=waP c.rate (fun s=>(strAt l s).lLo) L n∧hi=waP c.rate (fun s=>(strAt l s).lHi) L n)
theorem IAt.scal {h:Heap} {v:AV} {l:List Int} (hl:IAt h v l):Abs.scal v=true:=by
  obtain⟨_,⟨rfl,_⟩|⟨id,off,ex,rfl,_⟩⟩:=hl <;> rfl
theorem c_r1SameInts (H:Heap) (a b:AV) (l:List Int) (ha:IAt H a l) (hb:IAt H b l) (hn:(l.length:Int)<1000000):ACalls Try.prog F.ref01_SameInts [a,b] H (fun v h'=>v=.bool true∧h'=H):=by
  have hsa:∀ k,a.sc (H.length+k)=true:=fun k=>RAt.sc ha (by omega)
  have hsb:∀ k,b.sc (H.length+k)=true:=fun k=>RAt.sc hb (by omega)
  refine acalls_of ok_ref01_SameInts rfl fun hcl=>?_
  unfold ac_ref01_SameInts zo
  simp only [argsT,Nat.zero_add,Nat.reduceAdd]
  repeat (first|(with_reducible first|apply X1|apply X2|apply X8)|((with_reducible apply e_end);(simp;exact Rz))|((with_reducible apply O1);rfl;(simp (disch:=omega);exact Rz);exact Rz;(focus (first|(simp;done)|omega|(simp;omega)))))
  (with_reducible apply e_op);rfl;exact RAt.len ha _ (by simp);exact Rz;trivial
  repeat ((with_reducible apply O1);rfl;(simp (disch:=omega);exact Rz);exact Rz;(focus (first|(simp;done)|omega|(simp;omega))))
  (with_reducible apply e_op);rfl;exact RAt.len hb _ (by simp);exact Rz;trivial
  repeat (first|(with_reducible first|apply X1|apply X2|apply X5|apply X6|apply X8)|((with_reducible apply e_end);(simp;exact Rz))|((with_reducible apply O1);rfl;(simp (disch:=omega);exact Rz);exact Rz;(focus (first|(simp;done)|omega|(simp;omega))))|((with_reducible apply W3);(simp (disch:=omega);exact Rz)))
  refine e_loop (ι:={ i:Nat // i≤l.length }) (fun i=>[(0,a),(1,b),(5,.int .i64 i.1)]) (fun _=>H) (fun i=>l.length-i.1) ⟨0,by simp⟩ ?_ ?_
  · exact .inr <| le_id (by simp;exact⟨hsa 0,hsb 0⟩)
  · rintro⟨i,hi⟩
    dsimp only
    repeat (first|(with_reducible first|apply X1|apply X2)|((with_reducible apply O1);rfl;(simp (disch:=omega);exact Rz);exact Rz;(focus (first|(simp;done)|omega|(simp;omega)))))
    (with_reducible apply e_op);rfl;exact RAt.len ha _ (by simp);exact Rz;trivial
    by_cases hlt:i<l.length
    · have hlt2:(i:Int)<l.length:=by omega
      obtain⟨id,off,ex,rfl,hx,hid⟩:=IAt.get ha hlt
      obtain⟨id',off',ex',rfl,hx',hid'⟩:=IAt.get hb hlt
      repeat (first|(with_reducible first|apply X1|apply X2|apply X5|apply X6|apply X8|apply Y2|apply Y9)|((with_reducible first|apply e_end|apply d_end);(simp;exact Rz))|((first|((with_reducible apply O1);rfl)|((with_reducible apply P1);rfl)|((with_reducible apply P2);rfl));(simp (disch:=omega) [hlt,hlt2,hx,hx'];exact Rz);exact Rz;(focus (first|(simp;done)|omega|(simp;omega))))|((with_reducible apply Z9);(simp (disch:=omega) [hlt,hlt2,hx,hx'];exact Rz))|((with_reducible apply W3);(simp (disch:=omega) [hlt,hlt2,hx,hx'];exact Rz)))
      exact q_again ⟨i+1,hlt⟩ (by dsimp only;omega) (.inl (by simp))
    · have hlt2:¬ (i:Int)<l.length:=by omega
      repeat (first|(with_reducible first|apply X1|apply X2|apply X3|apply X4|apply X8|apply Y1|apply Y4|apply Y6)|((with_reducible apply e_end);(simp;exact Rz))|((with_reducible apply O1);rfl;(simp (disch:=omega) [hlt2];exact Rz);exact Rz;(focus (first|(simp;done)|omega|(simp;omega))))|((with_reducible apply W3);(simp (disch:=omega) [hlt2];exact Rz)))
      refine q_stay (.inr rfl) (by simp;exact Rz) ⟨rfl,rfl⟩
theorem c_r2SameInts (H:Heap) (a b:AV) (l:List Int) (ha:IAt H a l) (hb:IAt H b l) (hn:(l.length:Int)<1000000):ACalls Try.prog F.ref02_SameInts [a,b] H (fun v h'=>v=.bool true∧h'=H):=by
  refine acalls_of ok_ref02_SameInts rfl fun hcl=>?_
  unfold ac_ref02_SameInts zo
  simp only [argsT,Nat.zero_add,Nat.reduceAdd]
  repeat (first|(with_reducible first|apply X1|apply X2|apply X8)|((with_reducible apply e_end);(simp;exact Rz))|((with_reducible apply O1);rfl;(simp (disch:=omega);exact Rz);exact Rz;(focus (first|(simp;done)|omega|(simp;omega)))))
  (with_reducible apply e_call);(simp;exact Rz);exact c_r1SameInts _ _ _ l ha hb hn
  rintro _ _ ⟨rfl,rfl⟩
  repeat (first|(with_reducible first|apply X3|apply X8)|((with_reducible apply e_end);(simp;exact Rz))|((with_reducible apply O1);rfl;(simp (disch:=omega);exact Rz);exact Rz;(focus (first|(simp;done)|omega|(simp;omega)))))
  refine q_stay (.inr rfl) (by simp;exact Rz) ⟨rfl,rfl⟩
end Go.Proofs
