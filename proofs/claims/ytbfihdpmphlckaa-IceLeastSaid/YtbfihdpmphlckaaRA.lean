/- Several texts as one. -/
import Derived.Test.YtbfihdpmphlckaaJA
import Derived.Test.YtbfihdpmphlckaaCC
import Derived.Test.YtbfihdpmphlckaaDD
/- Ice: what the reference says of covers. -/
namespace Go.Proofs
open Go.Abs
attribute [local simp] AOp.den AOpd.ev lk cellsOf rd_new rd_new0 rd_zero rd_succ wr_new wr_new0 wr_zero wr_succ splice fillA binA scal sliceCells List.length_append argsT AV.sc scL AObj.sc resV getAll AR.get AOp.slots opdSlots opdsSlots partSlots eqAt at_new0 at_new set_new0 set_new wrap64
set_option linter.unusedSimpArgs false
set_option linter.unusedVariables false
theorem c_r2within (H : Heap) (n lo hi : Int) {b : Bool} (hb : b=true↔lo≤n∧n≤hi) : ACalls Try.prog F.qct [.int .i64 n,.int .i64 lo,.int .i64 hi] H (fun v h'=>v=.bool b∧h'=H):=by
  refine acalls_of ok_qct rfl fun hcl=>?_
  unfold ac_qct zo
  simp only [argsT,Nat.zero_add,Nat.reduceAdd]
  by_cases h1 : lo≤n
  · repeat (first|(with_reducible first|apply X1|apply X2|apply X3|apply X8)|((with_reducible apply e_end);(simp;exact Rz))|((with_reducible apply O1);rfl;(simp (disch:=omega) [h1];exact Rz);exact Rz;(focus (first|(simp;done)|omega|(simp;omega))))|((with_reducible apply Z7);(simp (disch:=omega) [h1];exact Rz)))
    refine q_stay (.inr rfl) (by simp; exact Rz) ⟨by rw [AV.bool.injEq,Bool.eq_iff_iff,hb]; simp [h1],rfl⟩
  · repeat (first|(with_reducible first|apply X1|apply X2|apply X3|apply X8)|((with_reducible apply e_end);(simp;exact Rz))|((with_reducible apply O1);rfl;(simp (disch:=omega) [h1];exact Rz);exact Rz;(focus (first|(simp;done)|omega|(simp;omega))))|((with_reducible apply Z1);(simp (disch:=omega) [h1];exact Rz)))
    refine q_stay (.inr rfl) (by simp; exact Rz) ⟨by rw [AV.bool.injEq,Bool.eq_iff_iff,hb]; simp [h1],rfl⟩
theorem c_r2spanned (H : Heap) (a c lo hi : Int) {b : Bool} (hb : b=true↔a≤c∧lo≤a∧c≤hi) : ACalls Try.prog F.qcs [.agg [.int .i64 a,.int .i64 c],.int .i64 lo,.int .i64 hi] H (fun v h'=>v=.bool b∧h'=H):=by
  refine acalls_of ok_qcs rfl fun hcl=>?_
  unfold ac_qcs zo
  simp only [argsT,Nat.zero_add,Nat.reduceAdd]
  by_cases h1 : lo≤a
  · by_cases h2 : a≤c
    · repeat (first|(with_reducible first|apply X1|apply X2|apply X3|apply X8)|((with_reducible apply e_end);(simp;exact Rz))|((with_reducible apply O1);rfl;(simp (disch:=omega) [h1,h2];exact Rz);exact Rz;(focus (first|(simp;done)|omega|(simp;omega))))|((with_reducible apply Z7);(simp (disch:=omega) [h1,h2];exact Rz)))
      refine q_drop (.inr rfl) (by simp; exact Rz) (by simp) ⟨by rw [AV.bool.injEq,Bool.eq_iff_iff,hb]; simp [h1,h2],rfl⟩
    · repeat (first|(with_reducible first|apply X1|apply X2|apply X3|apply X8)|((with_reducible apply e_end);(simp;exact Rz))|((with_reducible apply O1);rfl;(simp (disch:=omega) [h1,h2];exact Rz);exact Rz;(focus (first|(simp;done)|omega|(simp;omega))))|((with_reducible apply Z7);(simp (disch:=omega) [h1,h2];exact Rz))|((with_reducible apply Z1);(simp (disch:=omega) [h1,h2];exact Rz)))
      refine q_drop (.inr rfl) (by simp; exact Rz) (by simp) ⟨by rw [AV.bool.injEq,Bool.eq_iff_iff,hb]; simp [h1,h2],rfl⟩
  · repeat (first|(with_reducible first|apply X1|apply X2|apply X3|apply X8)|((with_reducible apply e_end);(simp;exact Rz))|((with_reducible apply O1);rfl;(simp (disch:=omega) [h1];exact Rz);exact Rz;(focus (first|(simp;done)|omega|(simp;omega))))|((with_reducible apply Z1);(simp (disch:=omega) [h1];exact Rz)))
    refine q_drop (.inr rfl) (by simp; exact Rz) (by simp) ⟨by rw [AV.bool.injEq,Bool.eq_iff_iff,hb]; simp [h1],rfl⟩
theorem c_r1Check (H : Heap) (l : List Str) (id off : Nat) (ex : Bool) (hs : rd H id off (l.length * 9)=some (l.flatMap Str.av)) (hn : (l.length : Int) < 1000000) :
    ACalls Try.prog F.qcd [.agg [.slice id off l.length 9 ex]] H (fun v h'=>h'=H∧∃ e : Int,v=.int .i64 e∧((validL l∧e=0)∨(¬ validL l∧e=10))):=by
  refine acalls_of ok_qcd rfl fun hcl=>?_
  unfold ac_qcd zo
  simp only [argsT,Nat.zero_add,Nat.reduceAdd]
  have hid:=rd_lt hs
  repeat (first|(with_reducible first|apply X1|apply X2|apply X8)|((with_reducible apply e_end);(simp;exact Rz))|((with_reducible apply O1);rfl;(simp (disch:=omega);exact Rz);exact Rz;(focus (first|(simp;done)|omega|(simp;omega)))))
  (with_reducible apply e_call); (simp; exact Rz); exact c_rTrack _ l id off ex (by rw [rd_old _ hid]; exact hs) hn
  rintro _ _ ⟨rfl,b,rfl,hb⟩
  cases b with
  | false =>
    repeat (first|(with_reducible first|apply X1|apply X2|apply X3|apply X8|apply X9)|((with_reducible apply e_end);(simp;exact Rz))|((with_reducible apply O1);rfl;(simp (disch:=omega);exact Rz);exact Rz;(focus (first|(simp;done)|omega|(simp;omega))))|((with_reducible apply Z9);(simp (disch:=omega);exact Rz)))
    refine q_drop (.inr rfl) (by simp; exact Rz) (by simp) ⟨rfl,10,rfl,.inr ⟨(fun h=>by have:=hb.2 h; cases this),rfl⟩⟩
  | true =>
    repeat (first|(with_reducible first|apply X1|apply X2|apply X3|apply X5|apply X8)|((with_reducible apply e_end);(simp;exact Rz))|((with_reducible apply O1);rfl;(simp (disch:=omega);exact Rz);exact Rz;(focus (first|(simp;done)|omega|(simp;omega))))|((with_reducible apply W3);(simp (disch:=omega);exact Rz)))
    refine q_drop (.inr rfl) (by simp; exact Rz) (by simp) ⟨rfl,0,rfl,.inl ⟨hb.1 rfl,rfl⟩⟩
set_option maxHeartbeats 1000000 in
theorem c_r2Ice (H : Heap) (c : Cv) (p : Plc) (hp : CvAt H c p) (hn1 : (c.bs.length : Int) < 1000000) (hn2 : (c.hs.length : Int) < 1000000) {b : Bool} (hb : b=true↔c.ok p.tn) :
    ACalls Try.prog F.qcn [.agg (c.av p)] H (fun v h'=>v=.bool b∧h'=H):=by
  have hp1:=hp.t
  have hp2:=rd_lt hp.b
  have hp3:=rd_lt hp.h
  have hrb:=hp.b
  have hrh:=hp.h
  obtain ⟨tid,toff,tex,tn,bid,boff,bex,hid,hoff,hex⟩:=p
  simp only [Cv.av] at *
  have fin : ∀ x : Bool,(x=true↔c.ok tn)→AV.bool x=AV.bool b:=fun x hx=>by rw [AV.bool.injEq,Bool.eq_iff_iff,hx,hb]
  have no : ¬ c.ok tn→AV.bool false=AV.bool b:=fun h=>fin false ⟨(fun h=>by cases h),fun h2=>absurd h2 h⟩
  clear hb
  refine acalls_of ok_qcn rfl fun hcl=>?_
  unfold ac_qcn zo
  simp only [argsT,Nat.zero_add,Nat.reduceAdd]
  by_cases hl : c.bs.length=tn
  rotate_left
  · have hl2 : ¬ (c.bs.length : Int)=tn:=by omega
    repeat (first|(with_reducible first|apply X1|apply X2|apply X3|apply X8|apply X9)|((with_reducible apply e_end);(simp;exact Rz))|((with_reducible apply O1);rfl;(simp (disch:=omega) [hl,hl2];exact Rz);exact Rz;(focus (first|(simp;done)|omega|(simp;omega))))|((with_reducible apply Z9);(simp (disch:=omega) [hl,hl2];exact Rz))|((with_reducible apply Z2);(simp (disch:=omega) [hl,hl2];exact Rz)))
    refine q_drop (.inr rfl) (by simp; exact Rz) (by simp) ⟨no (fun h=>hl h.len),rfl⟩
  subst hl
  obtain ⟨b1,h1⟩:=bof (1≤(c.hs.length : Int)∧(c.hs.length : Int)≤8)
  obtain ⟨b2,h2⟩:=bof (c.w1≤c.w2∧0≤c.w1∧c.w2≤20)
  obtain ⟨b3,h3⟩:=bof (c.y1≤c.y2∧1≤c.y1∧c.y2≤100)
  obtain ⟨b4,h4⟩:=bof (0≤c.rate∧c.rate≤100)
  obtain ⟨b5,h5⟩:=bof (0≤c.lim∧c.lim≤2000)
  obtain ⟨b6,h6⟩:=bof (0≤c.base∧c.base≤c.lim)
  repeat (first|(with_reducible first|apply X1|apply X2|apply X8)|((with_reducible apply e_end);(simp;exact Rz))|((with_reducible apply O1);rfl;(simp (disch:=omega);exact Rz);exact Rz;(focus (first|(simp;done)|omega|(simp;omega))))|((with_reducible apply Z7);(simp (disch:=omega);exact Rz)))
  (with_reducible apply e_call); (simp; exact Rz); exact c_r2within _ _ _ _ h1
  rintro _ _ ⟨rfl,rfl⟩
  cases b1 with
  | false =>
    repeat (first|(with_reducible first|apply X1|apply X2|apply X3|apply X8|apply X9)|((with_reducible apply e_end);(simp;exact Rz))|((with_reducible apply O1);rfl;(simp (disch:=omega);exact Rz);exact Rz;(focus (first|(simp;done)|omega|(simp;omega))))|((with_reducible first|apply Z7|apply Z9);(simp (disch:=omega);exact Rz))|((with_reducible apply Z2);(simp (disch:=omega);exact Rz)))
    refine q_drop (.inr rfl) (by simp; exact Rz) (by simp) ⟨no (fun h=>by have:=h1.2 ⟨by have:=h.hours; omega,by have:=h.hours; omega⟩; cases this),rfl⟩
  | true =>
  repeat (first|((with_reducible apply O1);rfl;(simp (disch:=omega);exact Rz);exact Rz;(focus (first|(simp;done)|omega|(simp;omega))))|((with_reducible apply Z7);(simp (disch:=omega);exact Rz)))
  (with_reducible apply e_call); (simp; exact Rz); exact c_r2spanned _ _ _ _ _ h2
  rintro _ _ ⟨rfl,rfl⟩
  cases b2 with
  | false =>
    repeat (first|(with_reducible first|apply X1|apply X2|apply X3|apply X8|apply X9)|((with_reducible apply e_end);(simp;exact Rz))|((with_reducible apply O1);rfl;(simp (disch:=omega);exact Rz);exact Rz;(focus (first|(simp;done)|omega|(simp;omega))))|((with_reducible first|apply Z7|apply Z9);(simp (disch:=omega);exact Rz))|((with_reducible apply Z2);(simp (disch:=omega);exact Rz)))
    refine q_drop (.inr rfl) (by simp; exact Rz) (by simp) ⟨no (fun h=>by have:=h2.2 h.rul.1; cases this),rfl⟩
  | true =>
  repeat (first|((with_reducible apply O1);rfl;(simp (disch:=omega);exact Rz);exact Rz;(focus (first|(simp;done)|omega|(simp;omega))))|((with_reducible apply Z7);(simp (disch:=omega);exact Rz)))
  (with_reducible apply e_call); (simp; exact Rz); exact c_r2spanned _ _ _ _ _ h3
  rintro _ _ ⟨rfl,rfl⟩
  cases b3 with
  | false =>
    repeat (first|(with_reducible first|apply X1|apply X2|apply X3|apply X8|apply X9)|((with_reducible apply e_end);(simp;exact Rz))|((with_reducible apply O1);rfl;(simp (disch:=omega);exact Rz);exact Rz;(focus (first|(simp;done)|omega|(simp;omega))))|((with_reducible first|apply Z7|apply Z9);(simp (disch:=omega);exact Rz))|((with_reducible apply Z2);(simp (disch:=omega);exact Rz)))
    refine q_drop (.inr rfl) (by simp; exact Rz) (by simp) ⟨no (fun h=>by have:=h3.2 h.rul.2.1; cases this),rfl⟩
  | true =>
  repeat (first|((with_reducible apply O1);rfl;(simp (disch:=omega);exact Rz);exact Rz;(focus (first|(simp;done)|omega|(simp;omega))))|((with_reducible apply Z7);(simp (disch:=omega);exact Rz)))
  (with_reducible apply e_call); (simp; exact Rz); exact c_r2within _ _ _ _ h4
  rintro _ _ ⟨rfl,rfl⟩
  cases b4 with
  | false =>
    repeat (first|(with_reducible first|apply X1|apply X2|apply X3|apply X8|apply X9)|((with_reducible apply e_end);(simp;exact Rz))|((with_reducible apply O1);rfl;(simp (disch:=omega);exact Rz);exact Rz;(focus (first|(simp;done)|omega|(simp;omega))))|((with_reducible first|apply Z7|apply Z9);(simp (disch:=omega);exact Rz))|((with_reducible apply Z2);(simp (disch:=omega);exact Rz)))
    refine q_drop (.inr rfl) (by simp; exact Rz) (by simp) ⟨no (fun h=>by have:=h4.2 h.rul.2.2.1; cases this),rfl⟩
  | true =>
  repeat (first|((with_reducible apply O1);rfl;(simp (disch:=omega);exact Rz);exact Rz;(focus (first|(simp;done)|omega|(simp;omega))))|((with_reducible apply Z7);(simp (disch:=omega);exact Rz)))
  (with_reducible apply e_call); (simp; exact Rz); exact c_r2within _ _ _ _ h5
  rintro _ _ ⟨rfl,rfl⟩
  cases b5 with
  | false =>
    repeat (first|(with_reducible first|apply X1|apply X2|apply X3|apply X8|apply X9)|((with_reducible apply e_end);(simp;exact Rz))|((with_reducible apply O1);rfl;(simp (disch:=omega);exact Rz);exact Rz;(focus (first|(simp;done)|omega|(simp;omega))))|((with_reducible first|apply Z7|apply Z9);(simp (disch:=omega);exact Rz))|((with_reducible apply Z2);(simp (disch:=omega);exact Rz)))
    refine q_drop (.inr rfl) (by simp; exact Rz) (by simp) ⟨no (fun h=>by have:=h5.2 h.rul.2.2.2.1; cases this),rfl⟩
  | true =>
  repeat (first|((with_reducible apply O1);rfl;(simp (disch:=omega);exact Rz);exact Rz;(focus (first|(simp;done)|omega|(simp;omega))))|((with_reducible apply Z7);(simp (disch:=omega);exact Rz)))
  (with_reducible apply e_call); (simp; exact Rz); exact c_r2within _ _ _ _ h6
  rintro _ _ ⟨rfl,rfl⟩
  cases b6 with
  | false =>
    repeat (first|(with_reducible first|apply X1|apply X2|apply X3|apply X8|apply X9)|((with_reducible apply e_end);(simp;exact Rz))|((with_reducible apply O1);rfl;(simp (disch:=omega);exact Rz);exact Rz;(focus (first|(simp;done)|omega|(simp;omega))))|((with_reducible first|apply Z7|apply Z9);(simp (disch:=omega);exact Rz)))
    refine q_drop (.inr rfl) (by simp; exact Rz) (by simp) ⟨no (fun h=>by have:=h6.2 h.rul.2.2.2.2; cases this),rfl⟩
  | true =>
  have hrul : c.ruled:=⟨h2.1 rfl,h3.1 rfl,h4.1 rfl,h5.1 rfl,h6.1 rfl⟩
  have hhrs:=h1.1 rfl
  repeat (first|(with_reducible first|apply X1|apply X2|apply X5|apply X6|apply X8)|((with_reducible apply e_end);(simp;exact Rz))|((with_reducible apply O1);rfl;(simp (disch:=omega);exact Rz);exact Rz;(focus (first|(simp;done)|omega|(simp;omega))))|((with_reducible apply Z7);(simp (disch:=omega);exact Rz))|((with_reducible apply W3);(simp (disch:=omega);exact Rz)))
  refine e_loop (ι:={ i : Nat // i≤c.bs.length∧∀ j (hj : j < c.bs.length),j < i→c.bs[j].ok })
    (fun i=>[(1,.ptr H.length 0),(3,.int .i64 i.1)]) (fun _=>H++[.cells (c.av ⟨tid,toff,tex,c.bs.length,bid,boff,bex,hid,hoff,hex⟩) true]) (fun i=>c.bs.length - i.1) ⟨0,by simp⟩ ?_ ?_
  · simp only [Cv.av]; exact .inl rfl
  · rintro ⟨i,hi1,hi2⟩
    simp only [Cv.av]
    by_cases hlt : i < c.bs.length
    · have hlt2 : (i : Int) < c.bs.length:=by omega
      have hx0:=rd_row Bd.av_length hrb hlt
      have hbk : c.ok c.bs.length→(c.bs[i]).ok:=fun h=>h.bok i hlt
      have hnx : (c.bs[i]).ok→∀ j (hj : j < c.bs.length),j < i+1→c.bs[j].ok:=fun h j hj hji=>by
        rcases Nat.lt_or_ge j i with h1 | h1
        · exact hi2 j hj h1
        · obtain rfl : j=i:=by omega
          exact h
      generalize c.bs[i]=s at hx0 hbk hnx
      obtain ⟨a1,a2,a3⟩:=s
      have hx:=rd_sub' hx0 0 2 (by omega)
      have hy:=rd_sub' hx0 2 1 (by omega)
      simp only [Bd.av,List.drop_succ_cons,List.drop_zero,List.take_succ_cons,List.take_zero,Nat.add_zero] at hx hy
      obtain ⟨b1,h1⟩:=bof (a1≤a2∧0≤a1∧a2≤2000)
      obtain ⟨b2,h2⟩:=bof (0≤a3∧a3≤9)
      repeat (first|(with_reducible first|apply X1|apply X2|apply X5|apply X6|apply X8)|((with_reducible apply e_end);(simp;exact Rz))|((with_reducible apply O1);rfl;(simp (disch:=omega) [hlt,hlt2,rd_old _ hp2,hx];exact Rz);exact Rz;(focus (first|(simp;done)|omega|(simp;omega))))|((with_reducible apply Z9);(simp (disch:=omega) [hlt,hlt2,rd_old _ hp2,hx];exact Rz)))
      (with_reducible apply e_call); (simp; exact Rz); exact c_r2spanned _ _ _ _ _ h1
      rintro _ _ ⟨rfl,rfl⟩
      cases b1 with
      | false =>
        repeat (first|(with_reducible first|apply X1|apply X2|apply X3|apply X8|apply X9|apply Y3|apply Y5)|((with_reducible apply e_end);(simp;exact Rz))|((with_reducible apply O1);rfl;(simp (disch:=omega);exact Rz);exact Rz;(focus (first|(simp;done)|omega|(simp;omega))))|((with_reducible apply Z9);(simp (disch:=omega);exact Rz))|((with_reducible apply Z2);(simp (disch:=omega);exact Rz)))
        refine q_drop (.inr rfl) (by simp; exact Rz) (by simp) ⟨no (fun h=>by have:=h1.2 (hbk h).1; cases this),rfl⟩
      | true =>
      repeat (first|((with_reducible apply O1);rfl;(simp (disch:=omega) [hlt,hlt2,rd_old _ hp2,hy];exact Rz);exact Rz;(focus (first|(simp;done)|omega|(simp;omega))))|((with_reducible apply Z7);(simp (disch:=omega) [hlt,hlt2,rd_old _ hp2,hy];exact Rz)))
      (with_reducible apply e_call); (simp; exact Rz); exact c_r2within _ _ _ _ h2
      rintro _ _ ⟨rfl,rfl⟩
      cases b2 with
      | false =>
        repeat (first|(with_reducible first|apply X1|apply X2|apply X3|apply X8|apply X9|apply Y3|apply Y5)|((with_reducible apply e_end);(simp;exact Rz))|((with_reducible apply O1);rfl;(simp (disch:=omega);exact Rz);exact Rz;(focus (first|(simp;done)|omega|(simp;omega))))|((with_reducible first|apply Z7|apply Z9);(simp (disch:=omega);exact Rz)))
        refine q_drop (.inr rfl) (by simp; exact Rz) (by simp) ⟨no (fun h=>by have:=h2.2 (hbk h).2; cases this),rfl⟩
      | true =>
      repeat (first|(with_reducible first|apply X2|apply X5|apply X8|apply Y2)|((with_reducible apply e_end);(simp;exact Rz))|((with_reducible apply O1);rfl;(simp (disch:=omega);exact Rz);exact Rz;(focus (first|(simp;done)|omega|(simp;omega))))|((with_reducible apply Z7);(simp (disch:=omega);exact Rz))|((with_reducible apply W3);(simp (disch:=omega);exact Rz)))
      refine q_again ⟨i+1,hlt,hnx ⟨h1.1 rfl,h2.1 rfl⟩⟩ (by dsimp only; omega) (.inl (by simp))
    · have hlt2 : ¬ (i : Int) < c.bs.length:=by omega
      have hbok : ∀ j (hj : j < c.bs.length),c.bs[j].ok:=fun j hj=>hi2 j hj (by omega)
      repeat (first|(with_reducible first|apply X1|apply X2|apply X4|apply X6|apply X8|apply Y1|apply Y4|apply Y6)|((with_reducible apply e_end);(simp;exact Rz))|((with_reducible apply O1);rfl;(simp (disch:=omega) [hlt2];exact Rz);exact Rz;(focus (first|(simp;done)|omega|(simp;omega))))|((with_reducible apply W3);(simp (disch:=omega) [hlt2];exact Rz)))
      refine e_loop (ι:={ i : Nat // i≤c.hs.length∧∀ j (hj : j < c.hs.length),j < i→c.hs[j].ok })
        (fun i=>[(1,.ptr H.length 0),(4,.int .i64 i.1)]) (fun _=>H++[.cells (c.av ⟨tid,toff,tex,c.bs.length,bid,boff,bex,hid,hoff,hex⟩) true]) (fun i=>c.hs.length - i.1) ⟨0,by simp⟩ ?_ ?_
      · simp only [Cv.av]; exact .inl rfl
      · rintro ⟨i,hi1,hi2⟩
        simp only [Cv.av]
        by_cases hlt : i < c.hs.length
        · have hlt2 : (i : Int) < c.hs.length:=by omega
          have hx:=rd_row Hr.av_length hrh hlt
          have hbk : c.ok c.bs.length→(c.hs[i]).ok:=fun h=>h.hok i hlt
          have hnx : (c.hs[i]).ok→∀ j (hj : j < c.hs.length),j < i+1→c.hs[j].ok:=fun h j hj hji=>by
            rcases Nat.lt_or_ge j i with h1 | h1
            · exact hi2 j hj h1
            · obtain rfl : j=i:=by omega
              exact h
          generalize c.hs[i]=s at hx hbk hnx
          obtain ⟨a1,a2,a3,a4,a5⟩:=s
          simp only [Hr.av] at hx
          obtain ⟨b1,h1⟩:=bof (a1≤a2∧0≤a1∧a2≤50)
          obtain ⟨b2,h2⟩:=bof (0≤a3∧a3≤60)
          obtain ⟨b3,h3⟩:=bof (0≤a4∧a4≤12)
          repeat (first|(with_reducible first|apply X1|apply X2|apply X5|apply X6|apply X8)|((with_reducible apply e_end);(simp;exact Rz))|((first|((with_reducible apply O1);rfl)|((with_reducible apply O2);rfl));(simp (disch:=omega) [hlt,hlt2,rd_old _ hp3,hx];exact Rz);exact Rz;(focus (first|(simp;done)|omega|(simp;omega))))|((with_reducible apply Z9);(simp (disch:=omega) [hlt,hlt2,rd_old _ hp3,hx];exact Rz)))
          (with_reducible apply e_call); (simp; exact Rz); exact c_r2spanned _ _ _ _ _ h1
          rintro _ _ ⟨rfl,rfl⟩
          cases b1 with
          | false =>
            repeat (first|(with_reducible first|apply X1|apply X2|apply X3|apply X8|apply X9|apply Y3|apply Y5)|((with_reducible apply e_end);(simp;exact Rz))|((with_reducible apply O1);rfl;(simp (disch:=omega);exact Rz);exact Rz;(focus (first|(simp;done)|omega|(simp;omega))))|((with_reducible apply Z9);(simp (disch:=omega);exact Rz))|((with_reducible apply Z2);(simp (disch:=omega);exact Rz)))
            refine q_drop (.inr rfl) (by simp; exact Rz) (by simp) ⟨no (fun h=>by have:=h1.2 (hbk h).1; cases this),rfl⟩
          | true =>
          repeat (first|((with_reducible apply O1);rfl;(simp (disch:=omega);exact Rz);exact Rz;(focus (first|(simp;done)|omega|(simp;omega))))|((with_reducible apply Z7);(simp (disch:=omega);exact Rz)))
          (with_reducible apply e_call); (simp; exact Rz); exact c_r2within _ _ _ _ h2
          rintro _ _ ⟨rfl,rfl⟩
          cases b2 with
          | false =>
            repeat (first|(with_reducible first|apply X1|apply X2|apply X3|apply X8|apply X9|apply Y3|apply Y5)|((with_reducible apply e_end);(simp;exact Rz))|((with_reducible apply O1);rfl;(simp (disch:=omega);exact Rz);exact Rz;(focus (first|(simp;done)|omega|(simp;omega))))|((with_reducible first|apply Z7|apply Z9);(simp (disch:=omega);exact Rz))|((with_reducible apply Z2);(simp (disch:=omega);exact Rz)))
            refine q_drop (.inr rfl) (by simp; exact Rz) (by simp) ⟨no (fun h=>by have:=h2.2 (hbk h).2.1; cases this),rfl⟩
          | true =>
          repeat (first|((with_reducible apply O1);rfl;(simp (disch:=omega);exact Rz);exact Rz;(focus (first|(simp;done)|omega|(simp;omega))))|((with_reducible apply Z7);(simp (disch:=omega);exact Rz)))
          (with_reducible apply e_call); (simp; exact Rz); exact c_r2within _ _ _ _ h3
          rintro _ _ ⟨rfl,rfl⟩
          cases b3 with
          | false =>
            repeat (first|(with_reducible first|apply X1|apply X2|apply X3|apply X8|apply X9|apply Y3|apply Y5)|((with_reducible apply e_end);(simp;exact Rz))|((with_reducible apply O1);rfl;(simp (disch:=omega);exact Rz);exact Rz;(focus (first|(simp;done)|omega|(simp;omega))))|((with_reducible first|apply Z7|apply Z9);(simp (disch:=omega);exact Rz)))
            refine q_drop (.inr rfl) (by simp; exact Rz) (by simp) ⟨no (fun h=>by have:=h3.2 (hbk h).2.2; cases this),rfl⟩
          | true =>
          repeat (first|(with_reducible first|apply X2|apply X5|apply X8|apply Y2)|((with_reducible apply e_end);(simp;exact Rz))|((with_reducible apply O1);rfl;(simp (disch:=omega);exact Rz);exact Rz;(focus (first|(simp;done)|omega|(simp;omega))))|((with_reducible apply Z7);(simp (disch:=omega);exact Rz))|((with_reducible apply W3);(simp (disch:=omega);exact Rz)))
          refine q_again ⟨i+1,hlt,hnx ⟨h1.1 rfl,h2.1 rfl,h3.1 rfl⟩⟩ (by dsimp only; omega) (.inr (le_take (G:=[_]) (by simp; omega) (by simp [Red])))
        · have hlt2 : ¬ (i : Int) < c.hs.length:=by omega
          have hhok : ∀ j (hj : j < c.hs.length),c.hs[j].ok:=fun j hj=>hi2 j hj (by omega)
          repeat (first|(with_reducible first|apply X1|apply X2|apply X3|apply X4|apply X8|apply Y1|apply Y4|apply Y6)|((with_reducible apply e_end);(simp;exact Rz))|((with_reducible apply O1);rfl;(simp (disch:=omega) [hlt2];exact Rz);exact Rz;(focus (first|(simp;done)|omega|(simp;omega))))|((with_reducible apply W3);(simp (disch:=omega) [hlt2];exact Rz)))
          refine q_drop (.inr rfl) (by simp; exact Rz) (by simp) ⟨fin true ⟨fun _=>⟨rfl,by omega,hbok,hhok,hrul⟩,fun _=>rfl⟩,rfl⟩
theorem c_r2Check (H : Heap) (l : List Str) (c : Cv) (p : Plc) (hp : CvAt H c p) (ht : TrAt H l p) (hn : (l.length : Int) < 1000000) (hn1 : (c.bs.length : Int) < 1000000) (hn2 : (c.hs.length : Int) < 1000000) :
    ACalls Try.prog F.qck [.agg (c.av p)] H (fun v h'=>h'=H∧∃ e : Int,v=.int .i64 e∧chkE l c e):=by
  obtain ⟨b1,h1⟩:=bof (c.ok p.tn)
  have k0:=fun G=>c_r1Check (H++G) l p.tid p.toff p.tex (by rw [rd_old _ (rd_lt ht.t)]; exact ht.t) hn
  have k1:=fun G=>c_r2Ice (H++G) c p (hp.app G) hn1 hn2 h1
  have hp1:=hp.t
  have hp2:=rd_lt hp.b
  have hp3:=rd_lt hp.h
  have htn:=ht.n
  rw [← htn] at k0
  simp only [Cv.av] at *
  refine acalls_of ok_qck rfl fun hcl=>?_
  unfold ac_qck zo
  simp only [argsT,Nat.zero_add,Nat.reduceAdd]
  repeat (first|(with_reducible first|apply X1|apply X2|apply X8)|((with_reducible apply e_end);(simp;exact Rz))|((with_reducible apply O1);rfl;(simp (disch:=omega);exact Rz);exact Rz;(focus (first|(simp;done)|omega|(simp;omega)))))
  (with_reducible apply e_call); (simp; exact Rz); exact k0 _
  rintro _ _ ⟨rfl,e,rfl,⟨hv,rfl⟩ | ⟨hv,rfl⟩⟩
  rotate_left
  · repeat (first|(with_reducible first|apply X1|apply X2|apply X3|apply X8|apply X9)|((with_reducible apply e_end);(simp;exact Rz))|((with_reducible apply O1);rfl;(simp (disch:=omega);exact Rz);exact Rz;(focus (first|(simp;done)|omega|(simp;omega))))|((with_reducible apply Z9);(simp (disch:=omega);exact Rz)))
    refine q_drop (.inr rfl) (by simp; exact Rz) (by simp) ⟨rfl,10,rfl,.inr (.inl ⟨hv,rfl⟩)⟩
  repeat (first|(with_reducible first|apply X1|apply X2|apply X5|apply X8)|((with_reducible apply e_end);(simp;exact Rz))|((with_reducible apply O1);rfl;(simp (disch:=omega);exact Rz);exact Rz;(focus (first|(simp;done)|omega|(simp;omega))))|((with_reducible apply W3);(simp (disch:=omega);exact Rz)))
  (with_reducible apply e_call); (simp; exact Rz); exact k1 _
  rintro _ _ ⟨rfl,rfl⟩
  cases b1 with
  | false =>
    repeat (first|(with_reducible first|apply X1|apply X2|apply X3|apply X8|apply X9)|((with_reducible apply e_end);(simp;exact Rz))|((with_reducible apply O1);rfl;(simp (disch:=omega);exact Rz);exact Rz;(focus (first|(simp;done)|omega|(simp;omega))))|((with_reducible apply Z9);(simp (disch:=omega);exact Rz)))
    refine q_drop (.inr rfl) (by simp; exact Rz) (by simp) ⟨rfl,20,rfl,.inr (.inr ⟨hv,(fun h=>by rw [← htn] at h; have:=h1.2 h; cases this),rfl⟩)⟩
  | true =>
    repeat (first|(with_reducible first|apply X1|apply X2|apply X3|apply X5|apply X8)|((with_reducible apply e_end);(simp;exact Rz))|((with_reducible apply O1);rfl;(simp (disch:=omega);exact Rz);exact Rz;(focus (first|(simp;done)|omega|(simp;omega))))|((with_reducible apply W3);(simp (disch:=omega);exact Rz)))
    refine q_drop (.inr rfl) (by simp; exact Rz) (by simp) ⟨rfl,0,rfl,.inl ⟨hv,by rw [← htn]; exact h1.1 rfl,rfl⟩⟩
theorem c_r2GreatN (H : Heap) (c : Cv) (p : Plc) (hp : CvAt H c p) (hn : (p.tn : Int)≤9223372036854775807) (hn1 : (c.bs.length : Int)≤9223372036854775807) (hn2 : (c.hs.length : Int)≤9223372036854775807) {b : Bool} (hb : b=true↔(20 < p.tn∨20 < c.bs.length∨12 < c.hs.length)) :
    ACalls Try.prog F.qcl [.agg (c.av p),.nilslice] H (fun v h'=>v=.bool b∧h'=H):=by
  have hp1:=hp.t
  have hp2:=rd_lt hp.b
  have hp3:=rd_lt hp.h
  have k0:=fun G=>c_great (H++G) p.tid p.toff p.tn p.tex (by simp; omega)
  have fin : ∀ x : Bool,(x=true↔(20 < p.tn∨20 < c.bs.length∨12 < c.hs.length))→AV.bool x=AV.bool b:=fun x hx=>by rw [AV.bool.injEq,Bool.eq_iff_iff,hx,hb]
  simp only [Cv.av] at *
  refine acalls_of ok_qcl rfl fun hcl=>?_
  unfold ac_qcl zo
  simp only [argsT,Nat.zero_add,Nat.reduceAdd]
  repeat (first|(with_reducible first|apply X1|apply X2|apply X8)|((with_reducible apply e_end);(simp;exact Rz))|((with_reducible apply O1);rfl;(simp (disch:=omega);exact Rz);exact Rz;(focus (first|(simp;done)|omega|(simp;omega)))))
  (with_reducible apply e_call); (simp; exact Rz); exact k0 _
  rintro _ _ ⟨rfl,rfl⟩
  by_cases h1 : 20 < p.tn
  · repeat (first|(with_reducible first|apply X1|apply X2|apply X3|apply X8|apply X9)|((with_reducible apply e_end);(simp;exact Rz))|((with_reducible apply O1);rfl;(simp (disch:=omega) [h1];exact Rz);exact Rz;(focus (first|(simp;done)|omega|(simp;omega))))|((with_reducible apply Z9);(simp (disch:=omega) [h1];exact Rz))|((with_reducible apply Z2);(simp (disch:=omega) [h1];exact Rz)))
    refine q_drop (.inr rfl) (by simp; exact Rz) (by simp) ⟨fin true (by simp [h1]),rfl⟩
  by_cases h2 : 20 < c.bs.length
  · have h22 : (20 : Int) < c.bs.length:=by omega
    repeat (first|(with_reducible first|apply X1|apply X2|apply X3|apply X8|apply X9)|((with_reducible apply e_end);(simp;exact Rz))|((with_reducible apply O1);rfl;(simp (disch:=omega) [h1,h22];exact Rz);exact Rz;(focus (first|(simp;done)|omega|(simp;omega))))|((with_reducible first|apply Z7|apply Z9);(simp (disch:=omega) [h1,h22];exact Rz))|((with_reducible apply Z2);(simp (disch:=omega) [h1,h22];exact Rz)))
    refine q_drop (.inr rfl) (by simp; exact Rz) (by simp) ⟨fin true (by simp [h1,h2]),rfl⟩
  by_cases h3 : 12 < c.hs.length
  · have h22 : ¬ (20 : Int) < c.bs.length:=by omega
    have h32 : (12 : Int) < c.hs.length:=by omega
    repeat (first|(with_reducible first|apply X1|apply X2|apply X3|apply X8|apply X9)|((with_reducible apply e_end);(simp;exact Rz))|((with_reducible apply O1);rfl;(simp (disch:=omega) [h1,h22,h32];exact Rz);exact Rz;(focus (first|(simp;done)|omega|(simp;omega))))|((with_reducible first|apply Z7|apply Z9);(simp (disch:=omega) [h1,h22,h32];exact Rz))|((with_reducible apply Z2);(simp (disch:=omega) [h1,h22,h32];exact Rz)))
    refine q_drop (.inr rfl) (by simp; exact Rz) (by simp) ⟨fin true (by simp [h1,h2,h3]),rfl⟩
  have h22 : ¬ (20 : Int) < c.bs.length:=by omega
  have h32 : ¬ (12 : Int) < c.hs.length:=by omega
  repeat (first|(with_reducible first|apply X1|apply X2|apply X5|apply X6|apply X8)|((with_reducible apply e_end);(simp;exact Rz))|((with_reducible apply O1);rfl;(simp (disch:=omega) [h1,h22,h32];exact Rz);exact Rz;(focus (first|(simp;done)|omega|(simp;omega))))|((with_reducible apply Z7);(simp (disch:=omega) [h1,h22,h32];exact Rz))|((with_reducible apply W3);(simp (disch:=omega) [h1,h22,h32];exact Rz)))
  refine e_loop (ι:=Unit) (fun _=>[(1,.nilslice),(5,.int .i64 0)]) (fun _=>H++[.cells (c.av p) true]) (fun _=>0) () ?_ ?_
  · simp only [Cv.av]; exact .inl rfl
  · intro _
    simp only [Cv.av]
    repeat (first|(with_reducible first|apply X1|apply X2|apply X3|apply X4|apply X8|apply Y1|apply Y4|apply Y6)|((with_reducible apply e_end);(simp;exact Rz))|((with_reducible apply O1);rfl;(simp (disch:=omega);exact Rz);exact Rz;(focus (first|(simp;done)|omega|(simp;omega))))|((with_reducible apply W3);(simp (disch:=omega);exact Rz)))
    refine q_drop (.inr rfl) (by simp; exact Rz) (by simp) ⟨fin false (by simp; omega),rfl⟩
theorem c_ready2 (H : Heap) (l : List Str) (c : Cv) (p : Plc) (hp : CvAt H c p) (ht : TrAt H l p) (hn : (l.length : Int)≤9223372036854775807) (hn1 : (c.bs.length : Int)≤9223372036854775807) (hn2 : (c.hs.length : Int)≤9223372036854775807) :
    ACalls Try.prog F.qca [.agg (c.av p)] H (fun v h'=>h'=H∧∃ b : Bool,v=.bool b∧(b=true↔validL l∧c.ok l.length)):=by
  obtain ⟨b1,h1⟩:=bof (20 < p.tn∨20 < c.bs.length∨12 < c.hs.length)
  have k0:=fun G=>c_r2GreatN (H++G) c p (hp.app G) (by rw [ht.n]; exact hn) hn1 hn2 h1
  have k1:=fun (hs : b1=false) G=>c_r2Check (H++G) l c p (hp.app G) (ht.app G) (by have:=ht.n; have : ¬ _:=fun h=>(by have:=h1.2 h; rw [hs] at this; cases this); omega) (by have:=ht.n; have : ¬ _:=fun h=>(by have:=h1.2 h; rw [hs] at this; cases this); omega) (by have:=ht.n; have : ¬ _:=fun h=>(by have:=h1.2 h; rw [hs] at this; cases this); omega)
  have hp1:=hp.t
  have hp2:=rd_lt hp.b
  have hp3:=rd_lt hp.h
  have htn:=ht.n
  simp only [Cv.av] at *
  refine acalls_of ok_qca rfl fun hcl=>?_
  unfold ac_qca zo
  simp only [argsT,Nat.zero_add,Nat.reduceAdd]
  repeat (first|(with_reducible first|apply X1|apply X2|apply X8)|((with_reducible apply e_end);(simp;exact Rz))|((with_reducible apply O1);rfl;(simp (disch:=omega);exact Rz);exact Rz;(focus (first|(simp;done)|omega|(simp;omega)))))
  (with_reducible apply e_call); (simp; exact Rz); exact k0 _
  rintro _ _ ⟨rfl,rfl⟩
  cases b1 with
  | true =>
    repeat (first|(with_reducible first|apply X3|apply X8)|((with_reducible apply e_end);(simp;exact Rz))|((with_reducible apply O1);rfl;(simp (disch:=omega);exact Rz);exact Rz;(focus (first|(simp;done)|omega|(simp;omega))))|((with_reducible apply Z1);(simp (disch:=omega);exact Rz)))
    have h1:=h1.1 rfl
    refine q_drop (.inr rfl) (by simp; exact Rz) (by simp) ⟨rfl,false,rfl,by simp only [Bool.false_eq_true,false_iff]; rintro ⟨hv,hc⟩; have:=hv.1; have:=hc.len; have:=hc.hours; omega⟩
  | false =>
    repeat (first|((with_reducible apply O1);rfl;(simp (disch:=omega);exact Rz);exact Rz;(focus (first|(simp;done)|omega|(simp;omega))))|((with_reducible apply Z7);(simp (disch:=omega);exact Rz)))
    (with_reducible apply e_call); (simp; exact Rz); exact k1 rfl _
    rintro _ _ ⟨rfl,e,rfl,he⟩
    rcases he with ⟨hv,hc,rfl⟩ | ⟨hv,rfl⟩ | ⟨hv,hc,rfl⟩
    · repeat (first|(with_reducible first|apply X3|apply X8)|((with_reducible apply e_end);(simp;exact Rz))|((with_reducible apply O1);rfl;(simp (disch:=omega);exact Rz);exact Rz;(focus (first|(simp;done)|omega|(simp;omega))))|((with_reducible apply Z7);(simp (disch:=omega);exact Rz)))
      refine q_drop (.inr rfl) (by simp; exact Rz) (by simp) ⟨rfl,true,rfl,by simp [hv,hc]⟩
    · repeat (first|(with_reducible first|apply X3|apply X8)|((with_reducible apply e_end);(simp;exact Rz))|((with_reducible apply O1);rfl;(simp (disch:=omega);exact Rz);exact Rz;(focus (first|(simp;done)|omega|(simp;omega))))|((with_reducible apply Z7);(simp (disch:=omega);exact Rz)))
      refine q_drop (.inr rfl) (by simp; exact Rz) (by simp) ⟨rfl,false,rfl,by simp [hv]⟩
    · repeat (first|(with_reducible first|apply X3|apply X8)|((with_reducible apply e_end);(simp;exact Rz))|((with_reducible apply O1);rfl;(simp (disch:=omega);exact Rz);exact Rz;(focus (first|(simp;done)|omega|(simp;omega))))|((with_reducible apply Z7);(simp (disch:=omega);exact Rz)))
      refine q_drop (.inr rfl) (by simp; exact Rz) (by simp) ⟨rfl,false,rfl,by simp [hc]⟩
theorem c_choose2 (H : Heap) (us : List Int) (id off : Nat) (ex : Bool) (i : Int) (hs : rd H id off us.length=some (us.map (.int .u32))) (hu : ∀ u ∈ us,0≤u∧u≤4294967295) (hi : 0≤i) (hi2 : i≤1000000) (hn : (us.length : Int)≤9223372036854775807) :
    ACalls Try.prog F.qbx [.slice id off us.length 1 ex,.int .i64 i] H (fun v h'=>v=.int .i64 (chooseF us i)∧h'=H):=by
  refine acalls_of ok_qbx rfl fun hcl=>?_
  unfold ac_qbx zo
  simp only [argsT,Nat.zero_add,Nat.reduceAdd]
  have hid:=rd_lt hs
  repeat (first|(with_reducible first|apply X1|apply X2|apply X8)|((with_reducible apply e_end);(simp;exact Rz))|((with_reducible apply O1);rfl;(simp (disch:=omega);exact Rz);exact Rz;(focus (first|(simp;done)|omega|(simp;omega)))))
  (with_reducible apply e_dec); (simp; exact Rz)
  · intro h0
    repeat (first|(with_reducible first|apply X1|apply X2|apply X3|apply X8|apply X9)|((with_reducible apply e_end);(simp;exact Rz))|((with_reducible apply O1);rfl;(simp (disch:=omega);exact Rz);exact Rz;(focus (first|(simp;done)|omega|(simp;omega)))))
    have : us=[]:=by cases us with | nil=>rfl | cons _ _=>simp at h0
    subst this
    exact q_drop0 (.inr rfl) (by simp; exact Rz) (by simp) ⟨by simp [chooseF],rfl⟩
  · intro h0
    have h3 : 0 < us.length:=by cases us with | nil=>simp at h0 | cons _ _=>simp
    have hk : i.toNat % us.length < us.length:=Nat.mod_lt _ h3
    have ht : i.tmod us.length=((i.toNat % us.length : Nat) : Int):=by
      rw [Int.tmod_eq_emod_of_nonneg hi,Int.natCast_emod,Int.toNat_of_nonneg hi]
    have hx : rd H id (off+i.toNat % us.length) 1=some [.int .u32 (chooseF us i)]:=by
      rw [rd_sub hs (show i.toNat % us.length+1≤us.length by omega)]
      congr 1
      rw [← List.map_drop,List.drop_eq_getElem_cons hk,List.map_cons,List.take_succ_cons,List.take_zero]
      simp [chooseF,List.getD_eq_getElem?_getD,List.getElem?_eq_getElem hk]
    have hc:=chooseF_ge hu i
    generalize hkk : i.toNat % us.length=k at hk ht hx
    repeat (first|(with_reducible first|apply X1|apply X2|apply X3|apply X5|apply X8)|((with_reducible apply e_end);(simp;exact Rz))|((with_reducible apply O1);rfl;(simp (disch:=omega) [ht,hx];exact Rz);exact Rz;(focus (first|(simp;done)|omega|(simp;omega)))))
    exact q_drop0 (.inr rfl) (by simp; exact Rz) (by simp) ⟨rfl,rfl⟩
def rwV (vs : Nat→AV) (n : Nat) : List AV:=(List.range n).map vs
theorem rwV_length (vs : Nat→AV) (n : Nat) : (rwV vs n).length=n:=by simp [rwV]
theorem rwV_at (vs : Nat→AV) {n h : Nat} (hh : h < n) : ((rwV vs n).drop h).take 1=[vs h]:=by
  apply List.ext_getElem
  · simp [rwV]; omega
  · intro k h1 h2
    simp only [List.length_cons,List.length_nil] at h2
    obtain rfl : k=0:=by omega
    simp [rwV]
def updV (vs : Nat→AV) (h : Nat) (v : AV) (k : Nat) : AV:=if k=h then v else vs k
theorem rwV_put (vs : Nat→AV) {n h : Nat} (hh : h < n) (v : AV) : splice (rwV vs n) h [v]=rwV (updV vs h v) n:=by
  have e : n=h+1+(n - h - 1):=by omega
  have e1 : rwV (updV vs h v) h=rwV vs h:=by
    apply List.map_congr_left
    intro k hk
    have:=List.mem_range.1 hk
    simp only [updV]; rw [if_neg (by omega)]
  have sp : ∀ (f : Nat→AV) (m : Nat),rwV f (h+1+m)=rwV f h++[f h]++(List.range m).map (fun k=>f (h+1+k)):=by
    intro f m
    simp only [rwV,List.range_add,List.map_append,List.map_map,List.range_one,List.map_cons,List.map_nil,Nat.add_zero]
    congr 1
  have t1:=sp vs (n - h - 1)
  have t2:=sp (updV vs h v) (n - h - 1)
  rw [← e] at t1 t2
  have l1 : (rwV vs h).length=h:=rwV_length _ _
  rw [t1,t2,e1]
  have u1 : updV vs h v h=v:=by simp [updV]
  have u2 : (List.range (n - h - 1)).map (fun k=>updV vs h v (h+1+k))=(List.range (n - h - 1)).map (fun k=>vs (h+1+k)):=by
    apply List.map_congr_left
    intro k _
    simp only [updV]; rw [if_neg (by omega)]
  rw [u1,u2]
  generalize (List.range (n - h - 1)).map (fun k=>vs (h+1+k))=R
  have t3 : (rwV vs h++[vs h]++R).take h=rwV vs h:=by rw [List.append_assoc]; exact List.take_left' l1
  have t4 : (rwV vs h++[vs h]++R).drop (h+1)=R:=List.drop_left' (by simp [l1])
  simp only [splice,List.length_cons,List.length_nil,Nat.zero_add]
  rw [t3,t4]
theorem rwV_nil (n : Nat) : List.replicate n AV.nilslice=rwV (fun _=>.nilslice) n:=by
  induction n with
  | zero=>rfl
  | succ n ih => 
    rw [List.replicate_succ',ih]
    simp [rwV,List.range_succ]
theorem AAt.keep {h h' : Heap} {sz : Nat} {v : AV} {cs : List AV} {n : Nat} (hl : AAt h sz v cs n) (hk : ∀ i,isId v i→h'[i]?=h[i]?) : AAt h' sz v cs n:=by
  obtain ⟨hc,h1 | ⟨id,h0,rfl,hh⟩⟩:=hl
  · exact ⟨hc,.inl h1⟩
  · exact ⟨hc,.inr ⟨id,h0,rfl,by rw [hk id rfl]; exact hh⟩⟩
structure Rows (H : Heap) (box : AObj) (n : Nat) (L : Nat→List Int) (vs : Nat→AV) (G : Heap) : Prop where
  at_ : ∀ k,k < n→AAt (H++box :: AObj.cells (rwV vs n) true :: G) 1 (vs k) (iv (L k)) (L k).length
  lo : ∀ k,k < n→∀ i,isId (vs k) i→H.length+2≤i
  ne : ∀ k j,k < n→j < n→k ≠ j→∀ i,isId (vs k) i→¬ isId (vs j) i
theorem Rows.nil (H : Heap) (box : AObj) (n : Nat) (L : Nat→List Int) (hL : ∀ k,k < n→L k=[]) : Rows H box n L (fun _=>.nilslice) [] :=
  ⟨fun k hk=>by rw [hL k hk]; exact AAt.nil _ _,fun k hk i hi=>hi.elim,fun k j hk hj hne i hi=>hi.elim⟩
theorem get3 {H : Heap} {a b b' : AObj} {G : Heap} {i : Nat} (h : H.length+2≤i) : (H++a :: b :: G)[i]?=(H++a :: b' :: G)[i]?:=by
  rw [List.getElem?_append_right (by omega),List.getElem?_append_right (by omega)]
  obtain ⟨k,hk⟩ : ∃ k,i - H.length=k+2:=⟨i - H.length - 2,by omega⟩
  rw [hk]; rfl
theorem get4 {H : Heap} {a b : AObj} {G T : Heap} {i : Nat} (h : i < H.length+(G.length+2)) : (H++a :: b :: (G++T))[i]?=(H++a :: b :: G)[i]?:=by
  rw [show H++a :: b :: (G++T)=(H++a :: b :: G)++T by simp,List.getElem?_append_left (by simp; omega)]
theorem Rows.congr {H : Heap} {box : AObj} {n : Nat} {L L' : Nat→List Int} {vs : Nat→AV} {G : Heap} (h : Rows H box n L vs G) (hL : ∀ k,k < n→L' k=L k) : Rows H box n L' vs G :=
  ⟨fun k hk=>by rw [hL k hk]; exact h.at_ k hk,h.lo,h.ne⟩
theorem c_drawn2 (H : Heap) (l : List Str) (c : Cv) (p : Plc) (hp : CvAt H c p) (hc : c.ok l.length) (hv : validL l) (us : List Int) (a : Int) (bid boff : Nat) (bex : Bool) (hb : rd H bid boff us.length=some (us.map (.int .u32))) (hu : ∀ u ∈ us,0≤u∧u≤4294967295) (hn : (us.length : Int)≤9223372036854775807) (ha : 0≤a∧a≤1000) :
    ACalls Try.prog F.qbz [.agg (c.av p),.slice bid boff us.length 1 bex,.int .i64 a] H (fun v h'=>∃ G,h'=H++G∧PlAt h' v c.hs.length (fun h=>plnL c us a h c.bs.length)):=by
  have hp1:=hp.t
  have hp2:=rd_lt hp.b
  have hp3:=rd_lt hp.h
  have hbid:=rd_lt hb
  have h12:=hv.1
  have hlen:=hc.len
  have h8:=hc.hours
  have hpa:=fun G=>hp.app G
  have cc:=fun G i h0 h1=>c_choose2 (H++G) us bid boff bex i (by rw [rd_old _ hbid]; exact hb) hu h0 h1 hn
  generalize hbx : AObj.cells (c.av p) true=box
  simp only [Cv.av] at *
  refine acalls_of ok_qbz rfl fun hcl=>?_
  unfold ac_qbz zo
  simp only [argsT,Nat.zero_add,Nat.reduceAdd]
  repeat (first|(with_reducible first|apply X1|apply X2|apply X6|apply X8)|((with_reducible apply e_end);(simp;exact Rz))|((with_reducible apply O1);rfl;(simp (disch:=omega);exact Rz);exact Rz;(focus (first|(simp;done)|omega|(simp;omega)))))
  rw [rwV_nil]
  have hw : c.hs.length=c.hs.length:=rfl
  rw [hbx]
  refine e_loop (ι:={ x : Nat × (Nat→AV) × Heap // x.1≤c.hs.length∧Rows H box c.hs.length (fun k=>if k < x.1 then plnL c us a k c.bs.length else []) x.2.1 x.2.2 })
    (fun x=>[(1,.slice bid boff us.length 1 bex),(2,.int .i64 a),(3,.ptr H.length 0),(7,.slice (H.length+1) 0 c.hs.length 1 true),(16,.int .i64 c.hs.length),(17,.int .i64 x.1.1)])
    (fun x=>H++box :: AObj.cells (rwV x.1.2.1 c.hs.length) true :: x.1.2.2) (fun x=>c.hs.length - x.1.1) ⟨(0,fun _=>.nilslice,[]),by simp,Rows.nil _ _ _ _ (fun k _=>by simp)⟩ ?_ ?_
  · exact .inl rfl
  · rintro ⟨⟨h,vs,G⟩,hi,hR⟩
    dsimp only at hi hR ⊢
    by_cases hlt : h < c.hs.length
    · have hlt2 : (h : Int) < c.hs.length:=by omega
      have hR2 : Rows H box c.hs.length (fun k=>if k < h then plnL c us a k c.bs.length else if k=h then plnL c us a h 0 else []) vs G:=hR.congr fun k hk=>by simp [plnL]
      clear hR
      subst hbx
      repeat (first|(with_reducible first|apply X1|apply X2|apply X5|apply X6|apply X8)|((with_reducible apply e_end);(simp;exact Rz))|((with_reducible apply O1);rfl;(simp (disch:=omega) [hlt2];exact Rz);exact Rz;(focus (first|(simp;done)|omega|(simp;omega))))|((with_reducible apply Z9);(simp (disch:=omega) [hlt2];exact Rz)))
      refine e_loop (ι:={ x : Nat × (Nat→AV) × Heap // x.1≤c.bs.length∧Rows H (AObj.cells (c.av p) true) c.hs.length (fun k=>if k < h then plnL c us a k c.bs.length else if k=h then plnL c us a h x.1 else []) x.2.1 x.2.2 })
        (fun x=>[(1,.slice bid boff us.length 1 bex),(2,.int .i64 a),(3,.ptr H.length 0),(7,.slice (H.length+1) 0 c.hs.length 1 true),(8,.int .i64 h),(16,.int .i64 c.hs.length),(17,.int .i64 h),(22,.int .i64 c.bs.length),(23,.int .i64 x.1.1)])
        (fun x=>H++AObj.cells (c.av p) true :: AObj.cells (rwV x.1.2.1 c.hs.length) true :: x.1.2.2) (fun x=>c.bs.length - x.1.1) ⟨(0,vs,G),by simp,by simpa [Cv.av] using hR2⟩ ?_ ?_
      · simp only [Cv.av]; exact .inl rfl
      · rintro ⟨⟨i,vs,G⟩,hi,hR⟩
        dsimp only at hi hR ⊢
        simp only [Cv.av] at hR ⊢
        by_cases hil : i < c.bs.length
        · have hil2 : (i : Int) < c.bs.length:=by omega
          have hx3:=rd_sub' (hp.hour hlt) 3 1 (by omega)
          have hx4:=rd_sub' (hp.hour hlt) 4 1 (by omega)
          have hpS : plnL c us a h (i+1)=if (c.h h).cold=true∧((plnL c us a h i).length : Int) < (c.h h).crew∧0 < chooseF us (a+13 * h+i) % 3 then plnL c us a h i++[(i : Int)] else plnL c us a h i:=rfl
          have hlm:=(plnL_len c us a h (by have:=hc.hok h hlt; rw [← Cv.h_eq hlt] at this; exact this.2.2.1) i).2
          have stay : plnL c us a h (i+1)=plnL c us a h i→Rows H (.cells [.slice p.tid p.toff p.tn 9 p.tex,.slice p.bid p.boff c.bs.length 3 p.bex,.slice p.hid p.hoff c.hs.length 5 p.hex,.int .i64 c.w1,.int .i64 c.w2,.int .i64 c.y1,.int .i64 c.y2,.int .i64 c.rate,.int .i64 c.lim,.int .i64 c.base] true) c.hs.length (fun k=>if k < h then plnL c us a k c.bs.length else if k=h then plnL c us a h (i+1) else []) vs G:=fun he=>hR.congr fun k hk=>by rw [he]
          have hrw:=rwV_at vs hlt
          have hrl:=rwV_length vs c.hs.length
          have hRh:=hR.at_ h hlt
          simp only [Nat.lt_irrefl,if_false,if_true] at hRh
          generalize c.h h=hr at *
          obtain ⟨z1,z2,z3,z4,z5⟩:=hr
          simp only [Hr.av,List.drop_succ_cons,List.drop_zero,List.take_succ_cons,List.take_zero] at hx3 hx4
          dsimp only at hpS
          cases z5 with
          | false =>
            simp only [Bool.false_eq_true,false_and,if_false] at hpS
            repeat (first|(with_reducible first|apply X1|apply X2|apply X5|apply X6|apply X8|apply Y2|apply Y9)|((with_reducible first|apply e_end|apply d_end);(simp;exact Rz))|((first|((with_reducible apply O1);rfl)|((with_reducible apply P1);rfl)|((with_reducible apply P2);rfl));(simp (disch:=omega) [hil2,rd_old _ hp3,hx4,hlt];exact Rz);exact Rz;(focus (first|(simp;done)|omega|(simp;omega))))|((with_reducible apply Z9);(simp (disch:=omega) [hil2,rd_old _ hp3,hx4,hlt];exact Rz))|((with_reducible apply Z5);(simp (disch:=omega) [hil2,rd_old _ hp3,hx4,hlt];exact Rz))|((with_reducible apply W3);(simp (disch:=omega) [hil2,rd_old _ hp3,hx4,hlt];exact Rz)))
            exact q_again ⟨(i+1,vs,G),by omega,stay hpS⟩ (by dsimp only; omega) (.inl (by simp))
          | true =>
          have hle1 : h+1≤c.hs.length:=by omega
          repeat (first|(with_reducible first|apply X1|apply X2|apply X5|apply X6|apply X8|apply Y9)|((with_reducible apply e_end);(simp;exact Rz))|((first|((with_reducible apply O1);rfl)|((with_reducible apply P1);rfl)|((with_reducible apply P2);rfl));(simp (disch:=omega) [hil2,rd_old _ hp3,hx4,hlt,hrw,hrl,hle1];exact Rz);exact Rz;(focus (first|(simp;done)|omega|(simp;omega))))|((with_reducible first|apply Z8|apply Z9);(simp (disch:=omega) [hil2,rd_old _ hp3,hx4,hlt,hrw,hrl,hle1];exact Rz)))
          (with_reducible apply P1); rfl; exact hRh.l.len (by simp); exact Rz; trivial
          repeat (first|((first|((with_reducible apply P1);rfl)|((with_reducible apply P2);rfl));(simp (disch:=omega) [hil2,rd_old _ hp3,hx3,hlt];exact Rz);exact Rz;(focus (first|(simp;done)|omega|(simp;omega))))|((with_reducible apply Z8);(simp (disch:=omega) [hil2,rd_old _ hp3,hx3,hlt];exact Rz)))
          by_cases hk : ((plnL c us a h i).length : Int) < z4
          rotate_left
          · simp only [hk,true_and,false_and,if_false] at hpS
            repeat (first|(with_reducible first|apply X2|apply X5|apply X8|apply Y2)|((with_reducible first|apply e_end|apply d_end);(simp;exact Rz))|((first|((with_reducible apply O1);rfl)|((with_reducible apply P1);rfl));(simp (disch:=omega) [hk];exact Rz);exact Rz;(focus (first|(simp;done)|omega|(simp;omega))))|((with_reducible apply Z5);(simp (disch:=omega) [hk];exact Rz))|((with_reducible apply W3);(simp (disch:=omega) [hk];exact Rz)))
            exact q_again ⟨(i+1,vs,G),by omega,stay hpS⟩ (by dsimp only; omega) (.inl (by simp))
          have hm : (chooseF us (a+13 * h+i)).tmod 3=chooseF us (a+13 * h+i) % 3:=Int.tmod_eq_emod_of_nonneg (chooseF_ge hu _).1
          repeat (first|((with_reducible apply P1);rfl;(simp (disch:=omega) [hk];exact Rz);exact Rz;(focus (first|(simp;done)|omega|(simp;omega))))|((with_reducible apply Z8);(simp (disch:=omega) [hk];exact Rz)))
          (with_reducible apply d_call); (simp; exact Rz); exact cc _ _ (by omega) (by omega); (focus (first | (simp; done) | (simp; omega)))
          by_cases hz : 0 < chooseF us (a+13 * h+i) % 3
          rotate_left
          · simp only [hz,and_false,if_false] at hpS
            repeat (first|(with_reducible first|apply X2|apply X5|apply X8|apply Y2)|((with_reducible first|apply e_end|apply d_end);(simp;exact Rz))|((first|((with_reducible apply O1);rfl)|((with_reducible apply P1);rfl));(simp (disch:=omega) [hk,hm,hz];exact Rz);exact Rz;(focus (first|(simp;done)|omega|(simp;omega))))|((with_reducible apply Z8);(simp (disch:=omega) [hk,hm,hz];exact Rz))|((with_reducible apply W3);(simp (disch:=omega) [hk,hm,hz];exact Rz)))
            exact q_again ⟨(i+1,vs,G),by omega,stay hpS⟩ (by dsimp only; omega) (.inl (by simp))
          simp only [hz,hk,and_self,if_true] at hpS
          repeat (first|(with_reducible first|apply X2|apply X8)|((with_reducible apply d_end);(simp;exact Rz))|((first|((with_reducible apply O1);rfl)|((with_reducible apply P1);rfl));(simp (disch:=omega) [hk,hm,hz,hlt,hrw,hrl,hle1];exact Rz);exact Rz;(focus (first|(simp;done)|omega|(simp;omega))))|((with_reducible first|apply Z8|apply Z9);(simp (disch:=omega) [hk,hm,hz,hlt,hrw,hrl,hle1];exact Rz)))
          refine e_appA (A:=H++[.cells [.slice p.tid p.toff p.tn 9 p.tex,.slice p.bid p.boff c.bs.length 3 p.bex,.slice p.hid p.hoff c.hs.length 5 p.hex,.int .i64 c.w1,.int .i64 c.w2,.int .i64 c.y1,.int .i64 c.y2,.int .i64 c.rate,.int .i64 c.lim,.int .i64 c.base] true,.cells (rwV vs c.hs.length) true]) (G:=G++[.cells [.int .i64 (i : Int)] true])
            (cs:=iv (plnL c us a h i)) (n:=(plnL c us a h i).length) (m:=1) (new:=[.int .i64 (i : Int)]) (by simp) (by simp; exact Rz) (by simp; exact Rz) (by have:=hRh.app [.cells [.int .i64 (i : Int)] true]; simpa using this) (fun k hk=>by have:=hR.lo h hlt k hk; simp; omega) (by simp) (by simp) (by omega) (by omega) ?_
          intro G2 v2 e3 e4 e5 e6 e7
          simp only [List.append_assoc,List.cons_append,List.nil_append] at e3 e4 e5 e6 e7 ⊢
          have e3':=e3
          obtain ⟨_,⟨_,h0⟩ | ⟨id2,_,rfl,hh2⟩⟩:=e3'
          · omega
          have hput:=rwV_put vs hlt (.slice id2 0 ((plnL c us a h i).length+1) 1 false)
          have hid2 : H.length+2≤id2:=by have:=e4 id2 rfl; simpa using this
          have hid3:=e6 id2 rfl
          simp only [List.length_append,List.length_cons,List.length_nil] at hid3
          repeat (first|(with_reducible first|apply X2|apply X8|apply Y2)|((with_reducible apply e_end);(simp;exact Rz))|((first|((with_reducible apply O1);rfl)|((with_reducible apply O2);rfl));(simp (disch:=omega) [hlt,hrl,hle1,-splice,hput];exact Rz);exact Rz;(focus (first|(simp;done)|omega|(simp;omega)))))
          refine q_again ⟨(i+1,updV vs h (.slice id2 0 ((plnL c us a h i).length+1) 1 false),G2),by omega,?_⟩ (by dsimp only; omega) (.inl (by simp))
          have old : ∀ k,k < c.hs.length→∀ i,isId (vs k) i→i < H.length+(G.length+2):=fun k hk i hi=>by
            have:=(hR.at_ k hk).l.lt hi
            simp at this; omega
          refine ⟨fun k hk=>?_,fun k hk i hi=>?_,fun k j hk hj hne i hi hi2=>?_⟩
          · by_cases hkh : k=h
            · subst hkh
              simp only [updV,if_true,Nat.lt_irrefl,if_false,hpS,iv_app,List.length_append]
              refine e3.keep fun i hi=>get3 ?_
              have : id2=i:=hi
              omega
            · simp only [updV,if_neg hkh]
              have:=hR.at_ k hk
              simp only [if_neg hkh] at this
              refine this.keep fun q hq=>?_
              have l1:=hR.lo k hk q hq
              have l2:=old k hk q hq
              have l3:=hR.ne k h hk hlt hkh q hq
              rw [get3 (b':=AObj.cells (rwV vs c.hs.length) true) l1,e5 q (by simp; omega) l3,get4 l2]
          · by_cases hkh : k=h
            · simp only [updV,if_pos hkh] at hi
              have : id2=i:=hi
              omega
            · simp only [updV,if_neg hkh] at hi
              exact hR.lo k hk i hi
          · by_cases hkh : k=h
            · by_cases hjh : j=h
              · omega
              · simp only [updV,if_pos hkh,if_neg hjh] at hi hi2
                have : id2=i:=hi
                have:=old j hj i hi2
                omega
            · by_cases hjh : j=h
              · simp only [updV,if_neg hkh,if_pos hjh] at hi hi2
                have : id2=i:=hi2
                have:=old k hk i hi
                omega
              · simp only [updV,if_neg hkh,if_neg hjh] at hi hi2
                exact hR.ne k j hk hj hne i hi hi2
        · have hil2 : ¬ (i : Int) < c.bs.length:=by omega
          obtain rfl : i=c.bs.length:=by omega
          repeat (first|(with_reducible first|apply X1|apply X2|apply X4|apply X8|apply Y1|apply Y2|apply Y4|apply Y6)|((with_reducible apply e_end);(simp;exact Rz))|((with_reducible apply O1);rfl;(simp (disch:=omega) [hil2];exact Rz);exact Rz;(focus (first|(simp;done)|omega|(simp;omega))))|((with_reducible apply W3);(simp (disch:=omega) [hil2];exact Rz)))
          refine q_again ⟨(h+1,vs,G),by omega,?_⟩ (by dsimp only; omega) (.inl (by simp))
          refine hR.congr fun k hk=>?_
          by_cases h1 : k < h
          · simp [h1,show k < h+1 by omega]
          · by_cases h2 : k=h
            · simp [h2]
            · simp [h1,h2,show ¬ k < h+1 by omega]
    · have hlt2 : ¬ (h : Int) < c.hs.length:=by omega
      obtain rfl : h=c.hs.length:=by omega
      repeat (first|(with_reducible first|apply X1|apply X2|apply X3|apply X4|apply X8|apply Y1|apply Y4|apply Y6)|((with_reducible apply e_end);(simp;exact Rz))|((with_reducible apply O1);rfl;(simp (disch:=omega) [hlt2];exact Rz);exact Rz;(focus (first|(simp;done)|omega|(simp;omega))))|((with_reducible apply W3);(simp (disch:=omega) [hlt2];exact Rz)))
      refine q_stay (.inr rfl) (by simp; exact Rz) ⟨_,rfl,?_⟩
      refine ⟨H.length+1,0,true,vs,rfl,?_,fun k hk=>?_⟩
      · have:=rwV_length vs c.hs.length
        simp only [rd_new,rd_succ,rd_zero,this,Nat.mul_one,Nat.zero_add,Nat.le_refl,if_true,List.drop_zero]
        rw [List.take_of_length_le (by omega)]; rfl
      · have:=(hR.at_ k hk).l.r
        simp only [hk,if_true] at this
        exact this
def bdR (c : Cv) (j : Nat) : List AV:=(c.b j).av
def hrR (c : Cv) (j : Nat) : List AV:=(c.h j).av
def twP (H : Heap) (tn : Nat) : Plc:=⟨H.length,0,false,tn,H.length+1,0,false,H.length+2,0,false⟩
theorem okPl_len {c : Cv} {n : Nat} (hc : c.ok n) {L : Nat→List Int} (hL : okPl c L) : ∀ k,k < c.hs.length→((L k).length : Int) < 1000000:=fun k hk=>by
  have h1:=(hL k hk).1
  have h2:=hc.hok k hk
  rw [← Cv.h_eq hk] at h2
  have:=h2.2.2
  simp only [handsF] at h1
  split at h1 <;> omega
theorem c_iSafeV (H : Heap) (l : List Str) (c : Cv) (p : Plc) (hp : CvAt H c p) (ht : TrAt H l p) (hv : validL l) (hc : c.ok l.length) (pl : AV) (L : Nat→List Int) (hpl : PlAt H pl c.hs.length L) (hL : okPl c L) :
    ACalls Try.prog F.qaf [.agg (c.av p),pl] H (fun v h'=>v=.tuple [.int .u8 (safeF c L),.int .i64 0]∧h'=H):=by
  have h12:=hv.1
  have hlen:=hc.len
  have h8:=hc.hours
  refine (c_iSafeG H l c p hp ht (by omega) (by omega) (by omega) pl _ L hpl (okPl_len hc hL) (by omega)).mono ?_
  rintro _ _ ⟨rfl,k,e,rfl,⟨h1,h2,_⟩ | ⟨_,_,_,rfl,rfl⟩⟩
  · rcases h1 with h1 | h1 | h1
    · exact absurd h1.2.2.2 h2
    · exact absurd ⟨hv,hc⟩ h1.1
    · exact absurd ⟨rfl,hL⟩ h1.2.2.1
  · exact ⟨rfl,rfl⟩
def Cv.till (c : Cv) (k : Nat) : Cv:={ c with hs:=c.hs.take k }
theorem IAt.scal {h : Heap} {v : AV} {l : List Int} (hl : IAt h v l) : Abs.scal v=true:=by
  obtain ⟨_,⟨rfl,_⟩ | ⟨id,off,ex,rfl,_⟩⟩:=hl <;> rfl
theorem c_r1SameInts (H : Heap) (a b : AV) (l : List Int) (ha : IAt H a l) (hb : IAt H b l) (hn : (l.length : Int) < 1000000) : ACalls Try.prog F.qcf [a,b] H (fun v h'=>v=.bool true∧h'=H):=by
  have hsa : ∀ k,a.sc (H.length+k)=true:=fun k=>RAt.sc ha (by omega)
  have hsb : ∀ k,b.sc (H.length+k)=true:=fun k=>RAt.sc hb (by omega)
  refine acalls_of ok_qcf rfl fun hcl=>?_
  unfold ac_qcf zo
  simp only [argsT,Nat.zero_add,Nat.reduceAdd]
  repeat (first|(with_reducible first|apply X1|apply X2|apply X8)|((with_reducible apply e_end);(simp;exact Rz))|((with_reducible apply O1);rfl;(simp (disch:=omega);exact Rz);exact Rz;(focus (first|(simp;done)|omega|(simp;omega)))))
  (with_reducible apply e_op); rfl; exact RAt.len ha _ (by simp); exact Rz; trivial
  repeat ((with_reducible apply O1);rfl;(simp (disch:=omega);exact Rz);exact Rz;(focus (first|(simp;done)|omega|(simp;omega))))
  (with_reducible apply e_op); rfl; exact RAt.len hb _ (by simp); exact Rz; trivial
  repeat (first|(with_reducible first|apply X1|apply X2|apply X5|apply X6|apply X8)|((with_reducible apply e_end);(simp;exact Rz))|((with_reducible apply O1);rfl;(simp (disch:=omega);exact Rz);exact Rz;(focus (first|(simp;done)|omega|(simp;omega))))|((with_reducible apply W3);(simp (disch:=omega);exact Rz)))
  refine e_loop (ι:={ i : Nat // i≤l.length }) (fun i=>[(0,a),(1,b),(5,.int .i64 i.1)]) (fun _=>H) (fun i=>l.length - i.1) ⟨0,by simp⟩ ?_ ?_
  · exact .inr <| le_id (by simp; exact ⟨hsa 0,hsb 0⟩)
  · rintro ⟨i,hi⟩
    dsimp only
    repeat (first|(with_reducible first|apply X1|apply X2)|((with_reducible apply O1);rfl;(simp (disch:=omega);exact Rz);exact Rz;(focus (first|(simp;done)|omega|(simp;omega)))))
    (with_reducible apply e_op); rfl; exact RAt.len ha _ (by simp); exact Rz; trivial
    by_cases hlt : i < l.length
    · have hlt2 : (i : Int) < l.length:=by omega
      obtain ⟨id,off,ex,rfl,hx,hid⟩:=IAt.get ha hlt
      obtain ⟨id',off',ex',rfl,hx',hid'⟩:=IAt.get hb hlt
      repeat (first|(with_reducible first|apply X1|apply X2|apply X5|apply X6|apply X8|apply Y2|apply Y9)|((with_reducible first|apply e_end|apply d_end);(simp;exact Rz))|((first|((with_reducible apply O1);rfl)|((with_reducible apply P1);rfl)|((with_reducible apply P2);rfl));(simp (disch:=omega) [hlt,hlt2,hx,hx'];exact Rz);exact Rz;(focus (first|(simp;done)|omega|(simp;omega))))|((with_reducible apply Z9);(simp (disch:=omega) [hlt,hlt2,hx,hx'];exact Rz))|((with_reducible apply W3);(simp (disch:=omega) [hlt,hlt2,hx,hx'];exact Rz)))
      exact q_again ⟨i+1,hlt⟩ (by dsimp only; omega) (.inl (by simp))
    · have hlt2 : ¬ (i : Int) < l.length:=by omega
      repeat (first|(with_reducible first|apply X1|apply X2|apply X3|apply X4|apply X8|apply Y1|apply Y4|apply Y6)|((with_reducible apply e_end);(simp;exact Rz))|((with_reducible apply O1);rfl;(simp (disch:=omega) [hlt2];exact Rz);exact Rz;(focus (first|(simp;done)|omega|(simp;omega))))|((with_reducible apply W3);(simp (disch:=omega) [hlt2];exact Rz)))
      refine q_stay (.inr rfl) (by simp; exact Rz) ⟨rfl,rfl⟩
theorem c_r2SameInts (H : Heap) (a b : AV) (l : List Int) (ha : IAt H a l) (hb : IAt H b l) (hn : (l.length : Int) < 1000000) : ACalls Try.prog F.qco [a,b] H (fun v h'=>v=.bool true∧h'=H):=by
  refine acalls_of ok_qco rfl fun hcl=>?_
  unfold ac_qco zo
  simp only [argsT,Nat.zero_add,Nat.reduceAdd]
  repeat (first|(with_reducible first|apply X1|apply X2|apply X8)|((with_reducible apply e_end);(simp;exact Rz))|((with_reducible apply O1);rfl;(simp (disch:=omega);exact Rz);exact Rz;(focus (first|(simp;done)|omega|(simp;omega)))))
  (with_reducible apply e_call); (simp; exact Rz); exact c_r1SameInts _ _ _ l ha hb hn
  rintro _ _ ⟨rfl,rfl⟩
  repeat (first|(with_reducible first|apply X3|apply X8)|((with_reducible apply e_end);(simp;exact Rz))|((with_reducible apply O1);rfl;(simp (disch:=omega);exact Rz);exact Rz;(focus (first|(simp;done)|omega|(simp;omega)))))
  refine q_stay (.inr rfl) (by simp; exact Rz) ⟨rfl,rfl⟩
def waL (r : Int) (g : Nat→Int) (l : List Int) : Nat→Int
  | 0=>0
  | k+1=>waL r g l k+r * g (l.getD k 0).toNat
def waP (r : Int) (g : Nat→Int) (L : Nat→List Int) : Nat→Int
  | 0=>0
  | h+1=>waP r g L h+waL r g (L h) (L h).length
theorem wa_term {r x : Int} (h0 : 0≤r) (h1 : r≤100) (h2 : 0≤x) (h3 : x≤30000) : 0≤r * x∧r * x≤3000000:=mul_bd (A:=100) (B:=30000) h0 h1 h2 h3
theorem waL_bd {r : Int} {g : Nat→Int} (h0 : 0≤r) (h1 : r≤100) {l : List Int} {n : Nat} (hl : okL n l) (hg : ∀ i,i < n→0≤g i∧g i≤30000) : ∀ {k : Nat},k≤l.length→0≤waL r g l k∧waL r g l k≤3000000 * k
  | 0,_=>by simp [waL]
  | k+1,hk=>by
    have ih:=waL_bd h0 h1 hl hg (k:=k) (by omega)
    have ho:=(hl k (by omega)).1
    have e : l.getD k 0=l[k]:=by simp [List.getD_eq_getElem?_getD,List.getElem?_eq_getElem (show k < l.length by omega)]
    have hg:=hg l[k].toNat (by omega)
    have ht:=wa_term h0 h1 hg.1 hg.2
    simp only [waL,e]
    omega
theorem waP_bd {r : Int} {g : Nat→Int} (h0 : 0≤r) (h1 : r≤100) {c : Cv} {n : Nat} (hc : c.ok n) {L : Nat→List Int} (hL : okPl c L) (hg : ∀ i,i < c.bs.length→0≤g i∧g i≤30000) : ∀ {h : Nat},h≤c.hs.length→0≤waP r g L h∧waP r g L h≤36000000 * h
  | 0,_=>by simp [waP]
  | h+1,hh=>by
    have ih:=waP_bd h0 h1 hc hL hg (h:=h) (by omega)
    have hl:=hL h (by omega)
    have hw:=waL_bd h0 h1 hl.2 hg (Nat.le_refl _)
    have h2:=hc.hok h (by omega)
    rw [← Cv.h_eq (by omega)] at h2
    have h3:=h2.2.2
    have h4:=hl.1
    simp only [handsF] at h4
    have h5 : ((L h).length : Int)≤12:=by split at h4 <;> omega
    simp only [waP]
    omega
def waterG (l : List Str) (c : Cv) (n : Nat) (L : Nat→List Int) (lo hi e : Int) : Prop :=
  (plE l c n L e∧e ≠ 0∧lo=0∧hi=0)∨(validL l∧c.ok l.length∧(n=c.hs.length∧okPl c L)∧e=0∧lo=waP c.rate (fun s=>(strAt l s).lLo) L n∧hi=waP c.rate (fun s=>(strAt l s).lHi) L n)
set_option maxHeartbeats 1000000 in
theorem c_iWaterG (H : Heap) (l : List Str) (c : Cv) (p : Plc) (hp : CvAt H c p) (ht : TrAt H l p) (hn : (l.length : Int) < 1000000) (hn1 : (c.bs.length : Int) < 1000000) (hn2 : (c.hs.length : Int) < 1000000)
    (pl : AV) (n : Nat) (L : Nat→List Int) (hpl : PlAt H pl n L) (hL : ∀ k,k < n→((L k).length : Int) < 1000000) (hn3 : (n : Int) < 1000000) :
    ACalls Try.prog F.qah [.agg (c.av p),pl] H (fun v h'=>h'=H∧∃ lo hi e : Int,v=.tuple [.agg [.int .i64 lo,.int .i64 hi],.int .i64 e]∧waterG l c n L lo hi e):=by
  have k0:=fun G=>c_checkPlan (H++G) l c p (hp.app G) (ht.app G) hn hn1 hn2 pl n L (hpl.app G) hL hn3
  have hp1:=hp.t
  have hp2:=rd_lt hp.b
  have hp3:=rd_lt hp.h
  have hrt:=ht.t
  have htn:=ht.n
  obtain ⟨pid,poff,pex,rfl,hpid,hrow⟩:=hpl.get
  simp only [Cv.av,htn] at *
  refine acalls_of ok_qah rfl fun hcl=>?_
  unfold ac_qah zo
  simp only [argsT,Nat.zero_add,Nat.reduceAdd]
  repeat (first|(with_reducible first|apply X1|apply X2|apply X8)|((with_reducible apply e_end);(simp;exact Rz))|((with_reducible apply O1);rfl;(simp (disch:=omega);exact Rz);exact Rz;(focus (first|(simp;done)|omega|(simp;omega)))))
  (with_reducible apply e_call); (simp; exact Rz); exact k0 _
  rintro _ _ ⟨rfl,e,rfl,hv⟩
  by_cases he : e=0
  rotate_left
  · repeat (first|(with_reducible first|apply X1|apply X2|apply X3|apply X8|apply X9)|((with_reducible apply e_end);(simp;exact Rz))|((first|((with_reducible apply O1);rfl)|((with_reducible apply O2);rfl));(simp (disch:=omega) [he];exact Rz);exact Rz;(focus (first|(simp;done)|omega|(simp;omega))))|((with_reducible apply Z9);(simp (disch:=omega) [he];exact Rz)))
    refine q_drop (.inr rfl) (by simp; exact Rz) (by simp) ⟨rfl,0,0,e,rfl,.inl ⟨hv,he,rfl,rfl⟩⟩
  subst he
  obtain ⟨hv,hc,⟨rfl,hok⟩,_⟩ | h | h:=hv
  rotate_left
  · exact absurd rfl h.2.2
  · exact absurd h.2.2.2 (by decide)
  have h12:=hv.1
  have hlen:=hc.len
  have h8:=hc.hours
  have hrt2:=hc.rul.2.2.1
  have hglo : ∀ i,i < c.bs.length→0≤(strAt l i).lLo∧(strAt l i).lLo≤30000:=fun i hi=>by
    have:=(hv.2 i (by omega)).2.1.2.2.1
    rw [← strAt_eq (by omega)] at this; omega
  have hghi : ∀ i,i < c.bs.length→0≤(strAt l i).lHi∧(strAt l i).lHi≤30000:=fun i hi=>by
    have:=(hv.2 i (by omega)).2.1.2.2.1
    rw [← strAt_eq (by omega)] at this; omega
  have wbl:=fun h hh=>waP_bd (g:=fun s=>(strAt l s).lLo) hrt2.1 hrt2.2 hc hok hglo (h:=h) hh
  have wbh:=fun h hh=>waP_bd (g:=fun s=>(strAt l s).lHi) hrt2.1 hrt2.2 hc hok hghi (h:=h) hh
  repeat (first|(with_reducible first|apply X1|apply X2|apply X5|apply X6|apply X8)|((with_reducible apply e_end);(simp;exact Rz))|((first|((with_reducible apply O1);rfl)|((with_reducible apply O2);rfl));(simp (disch:=omega);exact Rz);exact Rz;(focus (first|(simp;done)|omega|(simp;omega))))|((with_reducible apply W3);(simp (disch:=omega);exact Rz)))
  refine e_loop (ι:={ i : Nat // i≤c.hs.length })
    (fun i=>[(2,.ptr H.length 0),(4,.ptr (H.length+1) 0),(7,.ptr (H.length+2) 0),(21,.slice pid poff c.hs.length 1 pex),(22,.int .i64 c.hs.length),(23,.int .i64 i.1)])
    (fun i=>H++[.cells [.slice p.tid p.toff l.length 9 p.tex,.slice p.bid p.boff c.bs.length 3 p.bex,.slice p.hid p.hoff c.hs.length 5 p.hex,.int .i64 c.w1,.int .i64 c.w2,.int .i64 c.y1,.int .i64 c.y2,.int .i64 c.rate,.int .i64 c.lim,.int .i64 c.base] true,.cells [.int .i64 0,.int .i64 0] true,.cells [.int .i64 (waP c.rate (fun s=>(strAt l s).lLo) L i.1),.int .i64 (waP c.rate (fun s=>(strAt l s).lHi) L i.1)] true]) (fun i=>c.hs.length - i.1) ⟨0,by simp⟩ ?_ ?_
  · exact .inl rfl
  · rintro ⟨h,hi⟩
    dsimp only
    by_cases hlt : h < c.hs.length
    · have hlt2 : (h : Int) < c.hs.length:=by omega
      obtain ⟨x,hx,hix⟩:=hrow h hlt
      have hxs' : ∀ k,x.sc (H.length+k)=true:=fun k=>RAt.sc hix (by omega)
      have hLh:=hL h hlt
      have hokh:=(hok h hlt).2
      have b1:=wbl h (by omega)
      have b2:=wbh h (by omega)
      have b3:=wbl (h+1) (by omega)
      have b4:=wbh (h+1) (by omega)
      have kb1:=fun k hk=>waL_bd (g:=fun s=>(strAt l s).lLo) hrt2.1 hrt2.2 hokh hglo (k:=k) hk
      have kb2:=fun k hk=>waL_bd (g:=fun s=>(strAt l s).lHi) hrt2.1 hrt2.2 hokh hghi (k:=k) hk
      simp only [waP] at b3 b4
      have e1 : waP c.rate (fun s=>(strAt l s).lLo) L (h+1)=waP c.rate (fun s=>(strAt l s).lLo) L h+waL c.rate (fun s=>(strAt l s).lLo) (L h) (L h).length:=rfl
      have e2 : waP c.rate (fun s=>(strAt l s).lHi) L (h+1)=waP c.rate (fun s=>(strAt l s).lHi) L h+waL c.rate (fun s=>(strAt l s).lHi) (L h) (L h).length:=rfl
      have e3 : ∀ k,waL c.rate (fun s=>(strAt l s).lLo) (L h) (k+1)=waL c.rate (fun s=>(strAt l s).lLo) (L h) k+c.rate * (strAt l ((L h).getD k 0).toNat).lLo:=fun _=>rfl
      have e4 : ∀ k,waL c.rate (fun s=>(strAt l s).lHi) (L h) (k+1)=waL c.rate (fun s=>(strAt l s).lHi) (L h) k+c.rate * (strAt l ((L h).getD k 0).toNat).lHi:=fun _=>rfl
      have z1 : waL c.rate (fun s=>(strAt l s).lLo) (L h) 0=0:=rfl
      have z2 : waL c.rate (fun s=>(strAt l s).lHi) (L h) 0=0:=rfl
      have hll : (L h).length≤12:=by
        have h2:=hc.hok h hlt
        rw [← Cv.h_eq hlt] at h2
        have:=h2.2.2
        have h4:=(hok h hlt).1
        simp only [handsF] at h4
        split at h4 <;> omega
      generalize waP c.rate (fun s=>(strAt l s).lLo) L=P1 at *
      generalize waP c.rate (fun s=>(strAt l s).lHi) L=P2 at *
      generalize L h=ll at *
      generalize waL c.rate (fun s=>(strAt l s).lLo) ll=W1 at *
      generalize waL c.rate (fun s=>(strAt l s).lHi) ll=W2 at *
      repeat (first|(with_reducible first|apply X1|apply X2|apply X5|apply X6|apply X8)|((with_reducible apply e_end);(simp;exact Rz))|((with_reducible apply O1);rfl;(simp (disch:=omega) [hlt,hlt2,rd_old _ hpid,hx];exact Rz);exact Rz;(focus (first|(simp;done)|omega|(simp;omega))))|((with_reducible apply Z9);(simp (disch:=omega) [hlt,hlt2,rd_old _ hpid,hx];exact Rz)))
      (with_reducible apply e_op); rfl; exact RAt.len hix _ (by simp); exact Rz; trivial
      repeat (first|(with_reducible first|apply X6|apply X8)|((with_reducible apply e_end);(simp;exact Rz))|((with_reducible apply O1);rfl;(simp (disch:=omega);exact Rz);exact Rz;(focus (first|(simp;done)|omega|(simp;omega)))))
      refine e_loop (ι:={ k : Nat // k≤ll.length })
        (fun k=>[(2,.ptr H.length 0),(4,.ptr (H.length+1) 0),(7,.ptr (H.length+2) 0),(21,.slice pid poff c.hs.length 1 pex),(22,.int .i64 c.hs.length),(23,.int .i64 h),(27,x),(28,.int .i64 ll.length),(29,.int .i64 k.1)])
        (fun k=>H++[.cells [.slice p.tid p.toff l.length 9 p.tex,.slice p.bid p.boff c.bs.length 3 p.bex,.slice p.hid p.hoff c.hs.length 5 p.hex,.int .i64 c.w1,.int .i64 c.w2,.int .i64 c.y1,.int .i64 c.y2,.int .i64 c.rate,.int .i64 c.lim,.int .i64 c.base] true,.cells [.int .i64 0,.int .i64 0] true,.cells [.int .i64 (P1 h+W1 k.1),.int .i64 (P2 h+W2 k.1)] true]) (fun k=>ll.length - k.1) ⟨0,by simp⟩ ?_ ?_
      · simp only [z1,z2,Int.add_zero]; exact .inl rfl
      · rintro ⟨k,hk⟩
        dsimp only
        by_cases hkl : k < ll.length
        · have hkl2 : (k : Int) < ll.length:=by omega
          obtain ⟨id,off,ex,rfl,hx1,hid⟩:=IAt.get hix hkl
          have ho:=(hokh k hkl).1
          have eg : ll.getD k 0=ll[k]:=by simp [List.getD_eq_getElem?_getD,List.getElem?_eq_getElem hkl]
          have e3:=e3 k
          have e4:=e4 k
          have k1:=kb1 k hk
          have k2:=kb2 k hk
          have k3:=kb1 (k+1) hkl
          have k4:=kb2 (k+1) hkl
          rw [eg] at e3 e4
          obtain ⟨s,hs⟩ : ∃ s : Nat,ll[k]=s:=⟨ll[k].toNat,by omega⟩
          rw [hs] at hx1 ho e3 e4
          rw [Int.toNat_natCast] at e3 e4
          have hsl : s < l.length:=by omega
          have g1:=hglo s (by omega)
          have g2:=hghi s (by omega)
          have t1:=wa_term hrt2.1 hrt2.2 g1.1 g1.2
          have t2:=wa_term hrt2.1 hrt2.2 g2.1 g2.2
          have hst:=rd_sub' (rd_row Str.av_length hrt hsl) 1 2 (by omega)
          rw [← strAt_eq hsl] at hst
          generalize strAt l s=st at *
          obtain ⟨a1,a2,a3,a4,a5,a6,a7,a8,a9⟩:=st
          simp only [Str.av,List.drop_succ_cons,List.drop_zero,List.take_succ_cons,List.take_zero] at hst
          dsimp only at e3 e4 t1 t2
          repeat (first|(with_reducible first|apply X1|apply X2|apply X5|apply X6|apply X8)|((with_reducible apply e_end);(simp;exact Rz))|((first|((with_reducible apply O1);rfl)|((with_reducible apply O2);rfl));(simp (disch:=omega) [hkl,hkl2,rd_old _ hid,hx1,hsl,rd_old _ hp1,hst];exact Rz);exact Rz;(focus (first|(simp;done)|omega|(simp;omega))))|((with_reducible apply Z9);(simp (disch:=omega) [hkl,hkl2,rd_old _ hid,hx1,hsl,rd_old _ hp1,hst];exact Rz)))
          (with_reducible apply e_call); (simp; exact Rz); exact c_plus _ _ _ _ _ (by omega) (by omega) (by omega) (by omega)
          rintro _ _ ⟨rfl,rfl⟩
          repeat (first|(with_reducible first|apply X2|apply X8|apply Y2)|((with_reducible apply e_end);(simp;exact Rz))|((first|((with_reducible apply O1);rfl)|((with_reducible apply O2);rfl));(simp (disch:=omega);exact Rz);exact Rz;(focus (first|(simp;done)|omega|(simp;omega)))))
          have e5 : P1 h+W1 k+c.rate * a2=P1 h+W1 (k+1):=by omega
          have e6 : P2 h+W2 k+c.rate * a3=P2 h+W2 (k+1):=by omega
          rw [e5,e6]
          refine q_again ⟨k+1,hkl⟩ (by dsimp only; omega) (.inr ?_)
          exact le_take (G:=[_,_,_]) (by simp; omega) (by simp [Red,hid]; omega)
        · have hkl2 : ¬ (k : Int) < ll.length:=by omega
          obtain rfl : k=ll.length:=by omega
          repeat (first|(with_reducible first|apply X1|apply X2|apply X4|apply X8|apply Y1|apply Y2|apply Y4|apply Y6)|((with_reducible apply e_end);(simp;exact Rz))|((with_reducible apply O1);rfl;(simp (disch:=omega) [hkl2];exact Rz);exact Rz;(focus (first|(simp;done)|omega|(simp;omega))))|((with_reducible apply W3);(simp (disch:=omega) [hkl2];exact Rz)))
          refine q_again ⟨h+1,hlt⟩ (by dsimp only; omega) (.inl ?_)
          simp [e1,e2]
    · have hlt2 : ¬ (h : Int) < c.hs.length:=by omega
      obtain rfl : h=c.hs.length:=by omega
      repeat (first|(with_reducible first|apply X1|apply X2|apply X3|apply X4|apply X8|apply Y1|apply Y4|apply Y6)|((with_reducible apply e_end);(simp;exact Rz))|((first|((with_reducible apply O1);rfl)|((with_reducible apply O2);rfl));(simp (disch:=omega) [hlt2];exact Rz);exact Rz;(focus (first|(simp;done)|omega|(simp;omega))))|((with_reducible apply W3);(simp (disch:=omega) [hlt2];exact Rz)))
      refine q_drop (.inr rfl) (by simp; exact Rz) (by simp) ⟨rfl,_,_,0,rfl,.inr ⟨hv,hc,⟨rfl,hok⟩,rfl,rfl,rfl⟩⟩
end Go.Proofs
