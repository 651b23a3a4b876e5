/- Several texts as one. -/
import Derived.Test.YtgaojjbkaoankaaAcQ0
import Derived.Test.YtgaojjbkaoankaaRB
import Derived.Test.YtgaojjbkaoankaaRA
import Derived.Test.YtgaojjbkaoankaaPQB
import Derived.Test.YtgaojjbkaoankaaJA
import Derived.Test.YtgaojjbkaoankaaPC
import Derived.Test.YtgaojjbkaoankaaKK
import Derived.Test.YtgaojjbkaoankaaPB
/- Ice: what is answered where a cover is not valid. -/
namespace Go.Proofs
open Go.Abs
attribute [local simp] AOp.den AOpd.ev lk cellsOf rd_new rd_new0 rd_zero rd_succ wr_new wr_new0 wr_zero wr_succ splice fillA binA scal sliceCells List.length_append argsT AV.sc scL AObj.sc resV getAll AR.get AOp.slots opdSlots opdsSlots partSlots eqAt at_new0 at_new set_new0 set_new wrap64
set_option linter.unusedSimpArgs false
set_option linter.unusedVariables false
theorem c_iNeedE (H:Heap) (l:List Str) (c:Cv) (p:Plc) (hp:CvAt H c p) (ht:TrAt H l p) (hn:(l.length:Int)<1000000) (hn1:(c.bs.length:Int)<1000000) (hn2:(c.hs.length:Int)<1000000) (hbad:¬ (validL l∧c.ok l.length)) :
    ACalls Try.prog F.ice_Need [.agg (c.av p)] H (fun v h'=>∃ e:Int,chkE l c e∧v=.tuple [.nilslice,.int .i64 e]∧h'=H):=by
  have hp1:=hp.t
  have hp2:=rd_lt hp.b
  have hp3:=rd_lt hp.h
  have k0:=fun G=>c_iCheck (H++G) l c p (hp.app G) (ht.app G) hn hn1 hn2
  simp only [Cv.av] at k0 ⊢
  refine acalls_of ok_ice_Need rfl fun hcl=>?_
  unfold ac_ice_Need zo
  simp only [argsT,Nat.zero_add,Nat.reduceAdd]
  repeat (first|(with_reducible first|apply X1|apply X2|apply X8)|((with_reducible apply e_end);(simp;exact Rz))|((with_reducible apply O1);rfl;(simp (disch:=omega);exact Rz);exact Rz;(focus (first|(simp;done)|omega|(simp;omega)))))
  (with_reducible apply e_call);(simp;exact Rz);exact k0 _
  rintro _ _ ⟨rfl,e,rfl,he⟩
  have hne:¬ e=0:=by
    rcases he with h|h|h
    · exact fun _=>hbad ⟨h.1,h.2.1⟩
    · omega
    · omega
  repeat (first|(with_reducible first|apply X1|apply X2|apply X3|apply X8|apply X9)|((with_reducible apply e_end);(simp;exact Rz))|((with_reducible apply O1);rfl;(simp (disch:=omega) [hne];exact Rz);exact Rz;(focus (first|(simp;done)|omega|(simp;omega))))|((with_reducible apply Z9);(simp (disch:=omega) [hne];exact Rz)))
  refine q_drop (.inr rfl) (by simp;exact Rz) (by simp) ⟨e,he,rfl,rfl⟩
theorem c_r2NeedE (H:Heap) (l:List Str) (c:Cv) (p:Plc) (hp:CvAt H c p) (ht:TrAt H l p) (hn:(l.length:Int)<1000000) (hn1:(c.bs.length:Int)<1000000) (hn2:(c.hs.length:Int)<1000000) (hbad:¬ (validL l∧c.ok l.length)) :
    ACalls Try.prog F.ref02_Need [.agg (c.av p)] H (fun v h'=>∃ e:Int,chkE l c e∧v=.tuple [.nilslice,.int .i64 e]∧h'=H):=by
  have hp1:=hp.t
  have hp2:=rd_lt hp.b
  have hp3:=rd_lt hp.h
  have k0:=fun G=>c_r2Check (H++G) l c p (hp.app G) (ht.app G) hn hn1 hn2
  simp only [Cv.av] at k0 ⊢
  refine acalls_of ok_ref02_Need rfl fun hcl=>?_
  unfold ac_ref02_Need zo
  simp only [argsT,Nat.zero_add,Nat.reduceAdd]
  repeat (first|(with_reducible first|apply X1|apply X2|apply X8)|((with_reducible apply e_end);(simp;exact Rz))|((with_reducible apply O1);rfl;(simp (disch:=omega);exact Rz);exact Rz;(focus (first|(simp;done)|omega|(simp;omega)))))
  (with_reducible apply e_call);(simp;exact Rz);exact k0 _
  rintro _ _ ⟨rfl,e,rfl,he⟩
  have hne:¬ e=0:=by
    rcases he with h|h|h
    · exact fun _=>hbad ⟨h.1,h.2.1⟩
    · omega
    · omega
  repeat (first|(with_reducible first|apply X1|apply X2|apply X3|apply X8|apply X9)|((with_reducible apply e_end);(simp;exact Rz))|((with_reducible apply O1);rfl;(simp (disch:=omega) [hne];exact Rz);exact Rz;(focus (first|(simp;done)|omega|(simp;omega))))|((with_reducible apply Z9);(simp (disch:=omega) [hne];exact Rz)))
  refine q_drop (.inr rfl) (by simp;exact Rz) (by simp) ⟨e,he,rfl,rfl⟩
theorem c_iPlanE (H:Heap) (l:List Str) (c:Cv) (p:Plc) (hp:CvAt H c p) (ht:TrAt H l p) (hn:(l.length:Int)<1000000) (hn1:(c.bs.length:Int)<1000000) (hn2:(c.hs.length:Int)<1000000) (hbad:¬ (validL l∧c.ok l.length)) :
    ACalls Try.prog F.ice_Plan [.agg (c.av p)] H (fun v h'=>∃ e:Int,chkE l c e∧v=.tuple [.nilslice,.int .i64 e]∧h'=H):=by
  have hp1:=hp.t
  have hp2:=rd_lt hp.b
  have hp3:=rd_lt hp.h
  have k0:=fun G=>c_iCheck (H++G) l c p (hp.app G) (ht.app G) hn hn1 hn2
  simp only [Cv.av] at k0 ⊢
  refine acalls_of ok_ice_Plan rfl fun hcl=>?_
  unfold ac_ice_Plan zo
  simp only [argsT,Nat.zero_add,Nat.reduceAdd]
  repeat (first|(with_reducible first|apply X1|apply X2|apply X8)|((with_reducible apply e_end);(simp;exact Rz))|((with_reducible apply O1);rfl;(simp (disch:=omega);exact Rz);exact Rz;(focus (first|(simp;done)|omega|(simp;omega)))))
  (with_reducible apply e_call);(simp;exact Rz);exact k0 _
  rintro _ _ ⟨rfl,e,rfl,he⟩
  have hne:¬ e=0:=by
    rcases he with h|h|h
    · exact fun _=>hbad ⟨h.1,h.2.1⟩
    · omega
    · omega
  repeat (first|(with_reducible first|apply X1|apply X2|apply X3|apply X8|apply X9)|((with_reducible apply e_end);(simp;exact Rz))|((with_reducible apply O1);rfl;(simp (disch:=omega) [hne];exact Rz);exact Rz;(focus (first|(simp;done)|omega|(simp;omega))))|((with_reducible apply Z9);(simp (disch:=omega) [hne];exact Rz)))
  refine q_drop (.inr rfl) (by simp;exact Rz) (by simp) ⟨e,he,rfl,rfl⟩
theorem c_r2PlanE (H:Heap) (l:List Str) (c:Cv) (p:Plc) (hp:CvAt H c p) (ht:TrAt H l p) (hn:(l.length:Int)<1000000) (hn1:(c.bs.length:Int)<1000000) (hn2:(c.hs.length:Int)<1000000) (hbad:¬ (validL l∧c.ok l.length)) :
    ACalls Try.prog F.ref02_Plan [.agg (c.av p)] H (fun v h'=>∃ e:Int,chkE l c e∧v=.tuple [.nilslice,.int .i64 e]∧h'=H):=by
  have hp1:=hp.t
  have hp2:=rd_lt hp.b
  have hp3:=rd_lt hp.h
  have k0:=fun G=>c_r2Check (H++G) l c p (hp.app G) (ht.app G) hn hn1 hn2
  simp only [Cv.av] at k0 ⊢
  refine acalls_of ok_ref02_Plan rfl fun hcl=>?_
  unfold ac_ref02_Plan zo
  simp only [argsT,Nat.zero_add,Nat.reduceAdd]
  repeat (first|(with_reducible first|apply X1|apply X2|apply X8)|((with_reducible apply e_end);(simp;exact Rz))|((with_reducible apply O1);rfl;(simp (disch:=omega);exact Rz);exact Rz;(focus (first|(simp;done)|omega|(simp;omega)))))
  (with_reducible apply e_call);(simp;exact Rz);exact k0 _
  rintro _ _ ⟨rfl,e,rfl,he⟩
  have hne:¬ e=0:=by
    rcases he with h|h|h
    · exact fun _=>hbad ⟨h.1,h.2.1⟩
    · omega
    · omega
  repeat (first|(with_reducible first|apply X1|apply X2|apply X3|apply X8|apply X9)|((with_reducible apply e_end);(simp;exact Rz))|((with_reducible apply O1);rfl;(simp (disch:=omega) [hne];exact Rz);exact Rz;(focus (first|(simp;done)|omega|(simp;omega))))|((with_reducible apply Z9);(simp (disch:=omega) [hne];exact Rz)))
  refine q_drop (.inr rfl) (by simp;exact Rz) (by simp) ⟨e,he,rfl,rfl⟩
theorem c_iShortE (H:Heap) (l:List Str) (c:Cv) (p:Plc) (hp:CvAt H c p) (ht:TrAt H l p) (hn:(l.length:Int)<1000000) (hn1:(c.bs.length:Int)<1000000) (hn2:(c.hs.length:Int)<1000000) (hbad:¬ (validL l∧c.ok l.length)) :
    ACalls Try.prog F.ice_Short [.agg (c.av p)] H (fun v h'=>∃ e:Int,chkE l c e∧v=.tuple [.int .i64 0,.nilslice,.int .i64 e]∧h'=H):=by
  have hp1:=hp.t
  have hp2:=rd_lt hp.b
  have hp3:=rd_lt hp.h
  have k0:=fun G=>c_iCheck (H++G) l c p (hp.app G) (ht.app G) hn hn1 hn2
  simp only [Cv.av] at k0 ⊢
  refine acalls_of ok_ice_Short rfl fun hcl=>?_
  unfold ac_ice_Short zo
  simp only [argsT,Nat.zero_add,Nat.reduceAdd]
  repeat (first|(with_reducible first|apply X1|apply X2|apply X8)|((with_reducible apply e_end);(simp;exact Rz))|((with_reducible apply O1);rfl;(simp (disch:=omega);exact Rz);exact Rz;(focus (first|(simp;done)|omega|(simp;omega)))))
  (with_reducible apply e_call);(simp;exact Rz);exact k0 _
  rintro _ _ ⟨rfl,e,rfl,he⟩
  have hne:¬ e=0:=by
    rcases he with h|h|h
    · exact fun _=>hbad ⟨h.1,h.2.1⟩
    · omega
    · omega
  repeat (first|(with_reducible first|apply X1|apply X2|apply X3|apply X8|apply X9)|((with_reducible apply e_end);(simp;exact Rz))|((with_reducible apply O1);rfl;(simp (disch:=omega) [hne];exact Rz);exact Rz;(focus (first|(simp;done)|omega|(simp;omega))))|((with_reducible apply Z9);(simp (disch:=omega) [hne];exact Rz)))
  refine q_drop (.inr rfl) (by simp;exact Rz) (by simp) ⟨e,he,rfl,rfl⟩
theorem c_r2ShortE (H:Heap) (l:List Str) (c:Cv) (p:Plc) (hp:CvAt H c p) (ht:TrAt H l p) (hn:(l.length:Int)<1000000) (hn1:(c.bs.length:Int)<1000000) (hn2:(c.hs.length:Int)<1000000) (hbad:¬ (validL l∧c.ok l.length)) :
    ACalls Try.prog F.ref02_Short [.agg (c.av p)] H (fun v h'=>∃ e:Int,chkE l c e∧v=.tuple [.int .i64 0,.nilslice,.int .i64 e]∧h'=H):=by
  have hp1:=hp.t
  have hp2:=rd_lt hp.b
  have hp3:=rd_lt hp.h
  have k0:=fun G=>c_r2Check (H++G) l c p (hp.app G) (ht.app G) hn hn1 hn2
  simp only [Cv.av] at k0 ⊢
  refine acalls_of ok_ref02_Short rfl fun hcl=>?_
  unfold ac_ref02_Short zo
  simp only [argsT,Nat.zero_add,Nat.reduceAdd]
  repeat (first|(with_reducible first|apply X1|apply X2|apply X8)|((with_reducible apply e_end);(simp;exact Rz))|((with_reducible apply O1);rfl;(simp (disch:=omega);exact Rz);exact Rz;(focus (first|(simp;done)|omega|(simp;omega)))))
  (with_reducible apply e_call);(simp;exact Rz);exact k0 _
  rintro _ _ ⟨rfl,e,rfl,he⟩
  have hne:¬ e=0:=by
    rcases he with h|h|h
    · exact fun _=>hbad ⟨h.1,h.2.1⟩
    · omega
    · omega
  repeat (first|(with_reducible first|apply X1|apply X2|apply X3|apply X8|apply X9)|((with_reducible apply e_end);(simp;exact Rz))|((with_reducible apply O1);rfl;(simp (disch:=omega) [hne];exact Rz);exact Rz;(focus (first|(simp;done)|omega|(simp;omega))))|((with_reducible apply Z9);(simp (disch:=omega) [hne];exact Rz)))
  refine q_drop (.inr rfl) (by simp;exact Rz) (by simp) ⟨e,he,rfl,rfl⟩
theorem c_iDrillE (H:Heap) (l:List Str) (c:Cv) (p:Plc) (hp:CvAt H c p) (ht:TrAt H l p) (hn:(l.length:Int)<1000000) (hn1:(c.bs.length:Int)<1000000) (hn2:(c.hs.length:Int)<1000000) (hbad:¬ (validL l∧c.ok l.length)) (at_ a b:Int) :
    ACalls Try.prog F.ice_Drill [.agg (c.av p),.int .i64 at_,.agg [.int .i64 a,.int .i64 b]] H (fun v h'=>∃ e:Int,chkE l c e∧v=.tuple [.agg zc,.int .i64 e]∧h'=H):=by
  have hp1:=hp.t
  have hp2:=rd_lt hp.b
  have hp3:=rd_lt hp.h
  have k0:=fun G=>c_iCheck (H++G) l c p (hp.app G) (ht.app G) hn hn1 hn2
  simp only [Cv.av] at k0 ⊢
  refine acalls_of ok_ice_Drill rfl fun hcl=>?_
  unfold ac_ice_Drill zo
  simp only [argsT,Nat.zero_add,Nat.reduceAdd]
  repeat (first|(with_reducible first|apply X1|apply X2|apply X8)|((with_reducible apply e_end);(simp;exact Rz))|((with_reducible apply O1);rfl;(simp (disch:=omega);exact Rz);exact Rz;(focus (first|(simp;done)|omega|(simp;omega)))))
  (with_reducible apply e_call);(simp;exact Rz);exact k0 _
  rintro _ _ ⟨rfl,e,rfl,he⟩
  have hne:¬ e=0:=by
    rcases he with h|h|h
    · exact fun _=>hbad ⟨h.1,h.2.1⟩
    · omega
    · omega
  repeat (first|(with_reducible first|apply X1|apply X2|apply X3|apply X8|apply X9)|((with_reducible apply e_end);(simp;exact Rz))|((first|((with_reducible apply O1);rfl)|((with_reducible apply O2);rfl));(simp (disch:=omega) [hne];exact Rz);exact Rz;(focus (first|(simp;done)|omega|(simp;omega))))|((with_reducible apply Z9);(simp (disch:=omega) [hne];exact Rz)))
  refine q_drop (.inr rfl) (by simp;exact Rz) (by simp) ⟨e,he,rfl,rfl⟩
theorem c_r2DrillE (H:Heap) (l:List Str) (c:Cv) (p:Plc) (hp:CvAt H c p) (ht:TrAt H l p) (hn:(l.length:Int)<1000000) (hn1:(c.bs.length:Int)<1000000) (hn2:(c.hs.length:Int)<1000000) (hbad:¬ (validL l∧c.ok l.length)) (at_ a b:Int) :
    ACalls Try.prog F.ref02_Drill [.agg (c.av p),.int .i64 at_,.agg [.int .i64 a,.int .i64 b]] H (fun v h'=>∃ e:Int,chkE l c e∧v=.tuple [.agg zc,.int .i64 e]∧h'=H):=by
  have hp1:=hp.t
  have hp2:=rd_lt hp.b
  have hp3:=rd_lt hp.h
  have k0:=fun G=>c_r2Check (H++G) l c p (hp.app G) (ht.app G) hn hn1 hn2
  simp only [Cv.av] at k0 ⊢
  refine acalls_of ok_ref02_Drill rfl fun hcl=>?_
  unfold ac_ref02_Drill zo
  simp only [argsT,Nat.zero_add,Nat.reduceAdd]
  repeat (first|(with_reducible first|apply X1|apply X2|apply X8)|((with_reducible apply e_end);(simp;exact Rz))|((with_reducible apply O1);rfl;(simp (disch:=omega);exact Rz);exact Rz;(focus (first|(simp;done)|omega|(simp;omega)))))
  (with_reducible apply e_call);(simp;exact Rz);exact k0 _
  rintro _ _ ⟨rfl,e,rfl,he⟩
  have hne:¬ e=0:=by
    rcases he with h|h|h
    · exact fun _=>hbad ⟨h.1,h.2.1⟩
    · omega
    · omega
  repeat (first|(with_reducible first|apply X1|apply X2|apply X3|apply X8|apply X9)|((with_reducible apply e_end);(simp;exact Rz))|((first|((with_reducible apply O1);rfl)|((with_reducible apply O2);rfl));(simp (disch:=omega) [hne];exact Rz);exact Rz;(focus (first|(simp;done)|omega|(simp;omega))))|((with_reducible apply Z9);(simp (disch:=omega) [hne];exact Rz)))
  refine q_drop (.inr rfl) (by simp;exact Rz) (by simp) ⟨e,he,rfl,rfl⟩
theorem chkE_uniq {l:List Str} {c:Cv} {e e':Int} (h:chkE l c e) (h':chkE l c e'):e=e':=by
  rcases h with h|h|h <;> rcases h' with h'|h'|h'
  · rw [h.2.2,h'.2.2]
  · exact absurd h.1 h'.1
  · exact absurd h.2.1 h'.2.1
  · exact absurd h'.1 h.1
  · rw [h.2,h'.2]
  · exact absurd h'.1 h.1
  · exact absurd h'.2.1 h.2.1
  · exact absurd h.1 h'.1
  · rw [h.2.2,h'.2.2]
theorem c_r1SameD (H:Heap) (l:List Str) (id off id' off':Nat) (ex ex':Bool) (ha:rd H id off (l.length * 9)=some (l.flatMap Str.av)) (hb:rd H id' off' (l.length * 9)=some (l.flatMap Str.av)) (hn:l.length≤1000) :
    ACalls Try.prog F.ref01_Same [.agg [.slice id off l.length 9 ex],.agg [.slice id' off' l.length 9 ex']] H (fun v h'=>v=.bool true∧h'=H):=by
  have hai:=rd_lt ha
  have hbi:=rd_lt hb
  refine acalls_of ok_ref01_Same rfl fun hcl=>?_
  unfold ac_ref01_Same zo
  simp only [argsT,Nat.zero_add,Nat.reduceAdd]
  repeat (first|(with_reducible first|apply X1|apply X2|apply X5|apply X6|apply X8)|((with_reducible apply e_end);(simp;exact Rz))|((with_reducible apply O1);rfl;(simp (disch:=omega);exact Rz);exact Rz;(focus (first|(simp;done)|omega|(simp;omega))))|((with_reducible apply W3);(simp (disch:=omega);exact Rz)))
  refine e_loop (ι:={ i:Nat // i≤l.length }) (fun i=>[(2,.ptr H.length 0),(3,.ptr (H.length+1) 0),(5,.int .i64 i.1)]) (fun _=>H++[.cells [.slice id off l.length 9 ex] true,.cells [.slice id' off' l.length 9 ex'] true]) (fun i=>l.length-i.1) ⟨0,by simp⟩ ?_ ?_
  · exact .inl rfl
  · rintro⟨i,hi⟩
    dsimp only
    by_cases hlt:i<l.length
    · have hlt2:(i:Int)<l.length:=by omega
      have hx:=rd_row Str.av_length ha hlt
      have hy:=rd_row Str.av_length hb hlt
      generalize l[i]=s at hx hy
      obtain⟨a1,a2,a3,a4,a5,a6,a7,a8,a9⟩:=s
      simp only [Str.av] at hx hy
      repeat (first|(with_reducible first|apply X1|apply X2|apply X5|apply X6|apply X8|apply Y2|apply Y9)|((with_reducible first|apply e_end|apply d_end);(simp;exact Rz))|((first|((with_reducible apply O1);rfl)|((with_reducible apply P1);rfl)|((with_reducible apply P2);rfl));(simp (disch:=omega) [hlt,hlt2,rd_old _ hai,rd_old _ hbi,hx,hy];exact Rz);exact Rz;(focus (first|(simp;done)|omega|(simp;omega))))|((with_reducible apply Z9);(simp (disch:=omega) [hlt,hlt2,rd_old _ hai,rd_old _ hbi,hx,hy];exact Rz))|((with_reducible apply W3);(simp (disch:=omega) [hlt,hlt2,rd_old _ hai,rd_old _ hbi,hx,hy];exact Rz)))
      exact q_again ⟨i+1,hlt⟩ (by dsimp only;omega) (.inl (by simp))
    · have hlt2:¬ (i:Int)<l.length:=by omega
      repeat (first|(with_reducible first|apply X1|apply X2|apply X3|apply X4|apply X8|apply Y1|apply Y4|apply Y6)|((with_reducible apply e_end);(simp;exact Rz))|((with_reducible apply O1);rfl;(simp (disch:=omega) [hlt2];exact Rz);exact Rz;(focus (first|(simp;done)|omega|(simp;omega))))|((with_reducible apply W3);(simp (disch:=omega) [hlt2];exact Rz)))
      refine q_drop (.inr rfl) (by simp;exact Rz) (by simp) ⟨rfl,rfl⟩
theorem c_r2SameD (H:Heap) (l:List Str) (c:Cv) (p q:Plc) (hp:CvAt H c p) (hq:CvAt H c q) (hpt:TrAt H l p) (hqt:TrAt H l q) (hn:l.length≤1000) (hn1:c.bs.length≤1000) (hn2:c.hs.length≤1000) :
    ACalls Try.prog F.ref02_Same [.agg (c.av p),.agg (c.av q)] H (fun v h'=>v=.bool true∧h'=H):=by
  have hp1:=hp.t
  have hp2:=rd_lt hp.b
  have hp3:=rd_lt hp.h
  have hq1:=hq.t
  have hq2:=rd_lt hq.b
  have hq3:=rd_lt hq.h
  have htp:=hpt.n
  have htq:=hqt.n
  have k0:=fun G=>c_r1SameD (H++G) l p.tid p.toff q.tid q.toff p.tex q.tex (by rw [rd_old _ hp1];exact hpt.t) (by rw [rd_old _ hq1];exact hqt.t) hn
  simp only [Cv.av,htp,htq] at *
  refine acalls_of ok_ref02_Same rfl fun hcl=>?_
  unfold ac_ref02_Same zo
  simp only [argsT,Nat.zero_add,Nat.reduceAdd]
  repeat (first|(with_reducible first|apply X1|apply X2|apply X8)|((with_reducible apply e_end);(simp;exact Rz))|((with_reducible apply O1);rfl;(simp (disch:=omega);exact Rz);exact Rz;(focus (first|(simp;done)|omega|(simp;omega)))))
  (with_reducible apply e_call);(simp;exact Rz);exact k0 _
  rintro _ _ ⟨rfl,rfl⟩
  repeat (first|(with_reducible first|apply X1|apply X2|apply X5|apply X6|apply X8)|((with_reducible apply e_end);(simp;exact Rz))|((with_reducible apply O1);rfl;(simp (disch:=omega);exact Rz);exact Rz;(focus (first|(simp;done)|omega|(simp;omega))))|((with_reducible apply Z7);(simp (disch:=omega);exact Rz))|((with_reducible apply W3);(simp (disch:=omega);exact Rz)))
  refine e_loop (ι:={ i:Nat // i≤c.bs.length }) (fun i=>[(2,.ptr H.length 0),(3,.ptr (H.length+1) 0),(5,.int .i64 i.1)]) (fun _=>H++[.cells [.slice p.tid p.toff l.length 9 p.tex,.slice p.bid p.boff c.bs.length 3 p.bex,.slice p.hid p.hoff c.hs.length 5 p.hex,.int .i64 c.w1,.int .i64 c.w2,.int .i64 c.y1,.int .i64 c.y2,.int .i64 c.rate,.int .i64 c.lim,.int .i64 c.base] true,.cells [.slice q.tid q.toff l.length 9 q.tex,.slice q.bid q.boff c.bs.length 3 q.bex,.slice q.hid q.hoff c.hs.length 5 q.hex,.int .i64 c.w1,.int .i64 c.w2,.int .i64 c.y1,.int .i64 c.y2,.int .i64 c.rate,.int .i64 c.lim,.int .i64 c.base] true]) (fun i=>c.bs.length-i.1) ⟨0,by simp⟩ ?_ ?_
  · exact .inl rfl
  · rintro⟨i,hi⟩
    dsimp only
    by_cases hlt:i<c.bs.length
    · have hlt2:(i:Int)<c.bs.length:=by omega
      have hx:=hp.bed hlt
      have hy:=hq.bed hlt
      generalize c.b i=s at hx hy
      obtain⟨a1,a2,a3⟩:=s
      simp only [Bd.av] at hx hy
      repeat (first|(with_reducible first|apply X1|apply X2|apply X5|apply X6|apply X8|apply Y2|apply Y9)|((with_reducible first|apply e_end|apply d_end);(simp;exact Rz))|((first|((with_reducible apply O1);rfl)|((with_reducible apply P1);rfl)|((with_reducible apply P2);rfl));(simp (disch:=omega) [hlt,hlt2,rd_old _ hp2,rd_old _ hq2,hx,hy];exact Rz);exact Rz;(focus (first|(simp;done)|omega|(simp;omega))))|((with_reducible apply Z9);(simp (disch:=omega) [hlt,hlt2,rd_old _ hp2,rd_old _ hq2,hx,hy];exact Rz))|((with_reducible apply W3);(simp (disch:=omega) [hlt,hlt2,rd_old _ hp2,rd_old _ hq2,hx,hy];exact Rz)))
      exact q_again ⟨i+1,hlt⟩ (by dsimp only;omega) (.inl (by simp))
    · have hlt2:¬ (i:Int)<c.bs.length:=by omega
      repeat (first|(with_reducible first|apply X1|apply X2|apply X4|apply X6|apply X8|apply Y1|apply Y4|apply Y6)|((with_reducible apply e_end);(simp;exact Rz))|((with_reducible apply O1);rfl;(simp (disch:=omega) [hlt2];exact Rz);exact Rz;(focus (first|(simp;done)|omega|(simp;omega))))|((with_reducible apply W3);(simp (disch:=omega) [hlt2];exact Rz)))
      refine e_loop (ι:={ i:Nat // i≤c.hs.length }) (fun i=>[(2,.ptr H.length 0),(3,.ptr (H.length+1) 0),(6,.int .i64 i.1)]) (fun _=>H++[.cells [.slice p.tid p.toff l.length 9 p.tex,.slice p.bid p.boff c.bs.length 3 p.bex,.slice p.hid p.hoff c.hs.length 5 p.hex,.int .i64 c.w1,.int .i64 c.w2,.int .i64 c.y1,.int .i64 c.y2,.int .i64 c.rate,.int .i64 c.lim,.int .i64 c.base] true,.cells [.slice q.tid q.toff l.length 9 q.tex,.slice q.bid q.boff c.bs.length 3 q.bex,.slice q.hid q.hoff c.hs.length 5 q.hex,.int .i64 c.w1,.int .i64 c.w2,.int .i64 c.y1,.int .i64 c.y2,.int .i64 c.rate,.int .i64 c.lim,.int .i64 c.base] true]) (fun i=>c.hs.length-i.1) ⟨0,by simp⟩ ?_ ?_
      · exact .inl rfl
      · rintro⟨i,hi⟩
        dsimp only
        by_cases hlt:i<c.hs.length
        · have hlt2:(i:Int)<c.hs.length:=by omega
          have hx:=hp.hour hlt
          have hy:=hq.hour hlt
          generalize c.h i=s at hx hy
          obtain⟨a1,a2,a3,a4,a5⟩:=s
          simp only [Hr.av] at hx hy
          repeat (first|(with_reducible first|apply X1|apply X2|apply X5|apply X6|apply X8|apply Y2|apply Y9)|((with_reducible first|apply e_end|apply d_end);(simp;exact Rz))|((first|((with_reducible apply O1);rfl)|((with_reducible apply P1);rfl)|((with_reducible apply P2);rfl));(simp (disch:=omega) [hlt,hlt2,rd_old _ hp3,rd_old _ hq3,hx,hy];exact Rz);exact Rz;(focus (first|(simp;done)|omega|(simp;omega))))|((with_reducible apply Z9);(simp (disch:=omega) [hlt,hlt2,rd_old _ hp3,rd_old _ hq3,hx,hy];exact Rz))|((with_reducible apply W3);(simp (disch:=omega) [hlt,hlt2,rd_old _ hp3,rd_old _ hq3,hx,hy];exact Rz)))
          exact q_again ⟨i+1,hlt⟩ (by dsimp only;omega) (.inl (by simp))
        · have hlt2:¬ (i:Int)<c.hs.length:=by omega
          repeat (first|(with_reducible first|apply X1|apply X2|apply X3|apply X4|apply X8|apply Y1|apply Y4|apply Y6)|((with_reducible apply e_end);(simp;exact Rz))|((with_reducible apply O1);rfl;(simp (disch:=omega) [hlt2];exact Rz);exact Rz;(focus (first|(simp;done)|omega|(simp;omega))))|((with_reducible apply W3);(simp (disch:=omega) [hlt2];exact Rz)))
          refine q_drop (.inr rfl) (by simp;exact Rz) (by simp) ⟨rfl,rfl⟩
theorem c_r2SameLists (H:Heap) (a b:AV) (n:Nat) (L:Nat→List Int) (ha:PlAt H a n L) (hb:PlAt H b n L) (hn:n≤1000) (hL:∀ k,k<n→((L k).length:Int)<1000000):ACalls Try.prog F.ref02_SameLists [a,b] H (fun v h'=>v=.bool true∧h'=H):=by
  obtain⟨aid,aoff,aex,rfl,hai,har⟩:=ha.get
  obtain⟨bid,boff,bex,rfl,hbi,hbr⟩:=hb.get
  refine acalls_of ok_ref02_SameLists rfl fun hcl=>?_
  unfold ac_ref02_SameLists zo
  simp only [argsT,Nat.zero_add,Nat.reduceAdd]
  repeat (first|(with_reducible first|apply X1|apply X2|apply X5|apply X6|apply X8)|((with_reducible apply e_end);(simp;exact Rz))|((with_reducible apply O1);rfl;(simp (disch:=omega);exact Rz);exact Rz;(focus (first|(simp;done)|omega|(simp;omega))))|((with_reducible apply W3);(simp (disch:=omega);exact Rz)))
  refine e_loop (ι:={ i:Nat // i≤n }) (fun i=>[(0,.slice aid aoff n 1 aex),(1,.slice bid boff n 1 bex),(5,.int .i64 i.1)]) (fun _=>H) (fun i=>n-i.1) ⟨0,by simp⟩ ?_ ?_
  · exact .inr <| le_id (by simp;omega)
  · rintro⟨i,hi⟩
    dsimp only
    by_cases hlt:i<n
    · have hlt2:(i:Int)<n:=by omega
      obtain⟨x,hx,hix⟩:=har i hlt
      obtain⟨y,hy,hiy⟩:=hbr i hlt
      have hsx:∀ k,x.sc (H.length+k)=true:=fun k=>RAt.sc hix (by omega)
      have hsy:∀ k,y.sc (H.length+k)=true:=fun k=>RAt.sc hiy (by omega)
      have hsx0:=hsx 0
      have hsy0:=hsy 0
      rw [Nat.add_zero] at hsx0 hsy0
      repeat (first|(with_reducible first|apply X1|apply X2|apply X5|apply X6|apply X8|apply Y9)|((with_reducible apply e_end);(simp;exact Rz))|((first|((with_reducible apply O1);rfl)|((with_reducible apply P1);rfl)|((with_reducible apply P2);rfl));(simp (disch:=omega) [hlt,hlt2,hx,hy];exact Rz);exact Rz;(focus (first|(simp;done)|omega|(simp;omega))))|((with_reducible apply Z9);(simp (disch:=omega) [hlt,hlt2,hx,hy];exact Rz)))
      (with_reducible apply d_call);(simp;exact Rz);exact c_r2SameInts _ _ _ _ hix hiy (hL i hlt);(focus (first|(simp [hsx0,hsy0];done)|(simp [hsx0,hsy0];omega)))
      repeat (first|(with_reducible first|apply X2|apply X5|apply X8|apply Y2)|((with_reducible first|apply e_end|apply d_end);(simp;exact Rz))|((first|((with_reducible apply O1);rfl)|((with_reducible apply P1);rfl));(simp (disch:=omega);exact Rz);exact Rz;(focus (first|(simp;done)|omega|(simp;omega))))|((with_reducible apply W3);(simp (disch:=omega);exact Rz)))
      exact q_again ⟨i+1,hlt⟩ (by dsimp only;omega) (.inl (by simp))
    · have hlt2:¬ (i:Int)<n:=by omega
      repeat (first|(with_reducible first|apply X1|apply X2|apply X3|apply X4|apply X8|apply Y1|apply Y4|apply Y6)|((with_reducible apply e_end);(simp;exact Rz))|((with_reducible apply O1);rfl;(simp (disch:=omega) [hlt2];exact Rz);exact Rz;(focus (first|(simp;done)|omega|(simp;omega))))|((with_reducible apply W3);(simp (disch:=omega) [hlt2];exact Rz)))
      refine q_stay (.inr rfl) (by simp;exact Rz) ⟨rfl,rfl⟩
theorem c_iDrillO (H:Heap) (l:List Str) (c:Cv) (p:Plc) (hp:CvAt H c p) (ht:TrAt H l p) (hv:validL l) (hc:c.ok l.length) (at_ a b:Int) (hbad:¬ (0≤at_∧at_≤360000)) :
    ACalls Try.prog F.ice_Drill [.agg (c.av p),.int .i64 at_,.agg [.int .i64 a,.int .i64 b]] H (fun v h'=>v=.tuple [.agg zc,.int .i64 2]∧h'=H):=by
  have h12:=hv.1
  have hlen:=hc.len
  have h8:=hc.hours
  have k0:=fun G=>c_iCheck (H++G) l c p (hp.app G) (ht.app G) (by omega) (by omega) (by omega)
  have hp1:=hp.t
  have hp2:=rd_lt hp.b
  have hp3:=rd_lt hp.h
  have hp4:=rd_lt ht.t
  have htn:=ht.n
  have hpl:=fun X=>c_PlaceE (H++X) l p.tid p.toff p.tex at_ (by rw [rd_old _ hp4];exact ht.t) (by omega) (.inr hbad) 2 (fun h=>absurd hv h) (fun _=>rfl)
  simp only [Cv.av] at *
  refine acalls_of ok_ice_Drill rfl fun hcl=>?_
  unfold ac_ice_Drill zo
  simp only [argsT,Nat.zero_add,Nat.reduceAdd]
  repeat (first|(with_reducible first|apply X1|apply X2|apply X8)|((with_reducible apply e_end);(simp;exact Rz))|((with_reducible apply O1);rfl;(simp (disch:=omega);exact Rz);exact Rz;(focus (first|(simp;done)|omega|(simp;omega)))))
  (with_reducible apply e_call);(simp;exact Rz);exact k0 _
  rintro _ _ ⟨rfl,e,rfl,he⟩
  obtain rfl:e=0:=by
    rcases he with⟨_,_,rfl⟩|⟨a,_⟩|⟨_,a,_⟩
    · rfl
    · exact absurd hv a
    · exact absurd hc a
  repeat (first|(with_reducible first|apply X1|apply X2|apply X5|apply X8)|((with_reducible apply e_end);(simp;exact Rz))|((with_reducible apply O1);rfl;(simp (disch:=omega) [htn];exact Rz);exact Rz;(focus (first|(simp;done)|omega|(simp;omega))))|((with_reducible apply W3);(simp (disch:=omega) [htn];exact Rz)))
  (with_reducible apply e_call);(simp;exact Rz);exact hpl _
  rintro _ _ ⟨rfl,rfl⟩
  repeat (first|(with_reducible first|apply X1|apply X2|apply X3|apply X8|apply X9|apply Y9)|((with_reducible first|apply e_end|apply d_end);(simp;exact Rz))|((first|((with_reducible apply O1);rfl)|((with_reducible apply O2);rfl)|((with_reducible apply P1);rfl));(simp (disch:=omega);exact Rz);exact Rz;(focus (first|(simp;done)|omega|(simp;omega))))|((with_reducible apply Z9);(simp (disch:=omega);exact Rz))|((with_reducible apply Z6);(simp (disch:=omega);exact Rz)))
  refine q_drop (.inr rfl) (by simp;exact Rz) (by simp) ⟨rfl,rfl⟩
theorem c_r2DrillO (H:Heap) (l:List Str) (c:Cv) (p:Plc) (hp:CvAt H c p) (ht:TrAt H l p) (hv:validL l) (hc:c.ok l.length) (at_ a b:Int) (hbad:¬ (0≤at_∧at_≤360000)) :
    ACalls Try.prog F.ref02_Drill [.agg (c.av p),.int .i64 at_,.agg [.int .i64 a,.int .i64 b]] H (fun v h'=>v=.tuple [.agg zc,.int .i64 2]∧h'=H):=by
  have h12:=hv.1
  have hlen:=hc.len
  have h8:=hc.hours
  have k0:=fun G=>c_r2Check (H++G) l c p (hp.app G) (ht.app G) (by omega) (by omega) (by omega)
  have hp1:=hp.t
  have hp2:=rd_lt hp.b
  have hp3:=rd_lt hp.h
  have hp4:=rd_lt ht.t
  have htn:=ht.n
  have hpl:=fun X=>c_rPlaceE (H++X) l p.tid p.toff p.tex at_ (by rw [rd_old _ hp4];exact ht.t) (by omega) (.inr hbad) 2 (fun h=>absurd hv h) (fun _=>rfl)
  simp only [Cv.av] at *
  refine acalls_of ok_ref02_Drill rfl fun hcl=>?_
  unfold ac_ref02_Drill zo
  simp only [argsT,Nat.zero_add,Nat.reduceAdd]
  repeat (first|(with_reducible first|apply X1|apply X2|apply X8)|((with_reducible apply e_end);(simp;exact Rz))|((with_reducible apply O1);rfl;(simp (disch:=omega);exact Rz);exact Rz;(focus (first|(simp;done)|omega|(simp;omega)))))
  (with_reducible apply e_call);(simp;exact Rz);exact k0 _
  rintro _ _ ⟨rfl,e,rfl,he⟩
  obtain rfl:e=0:=by
    rcases he with⟨_,_,rfl⟩|⟨a,_⟩|⟨_,a,_⟩
    · rfl
    · exact absurd hv a
    · exact absurd hc a
  repeat (first|(with_reducible first|apply X1|apply X2|apply X5|apply X8)|((with_reducible apply e_end);(simp;exact Rz))|((with_reducible apply O1);rfl;(simp (disch:=omega) [htn];exact Rz);exact Rz;(focus (first|(simp;done)|omega|(simp;omega))))|((with_reducible apply W3);(simp (disch:=omega) [htn];exact Rz)))
  (with_reducible apply e_call);(simp;exact Rz);exact hpl _
  rintro _ _ ⟨rfl,rfl⟩
  repeat (first|(with_reducible first|apply X1|apply X2|apply X3|apply X8|apply X9)|((with_reducible apply e_end);(simp;exact Rz))|((first|((with_reducible apply O1);rfl)|((with_reducible apply O2);rfl));(simp (disch:=omega);exact Rz);exact Rz;(focus (first|(simp;done)|omega|(simp;omega))))|((with_reducible apply Z9);(simp (disch:=omega);exact Rz))|((with_reducible apply Z2);(simp (disch:=omega);exact Rz)))
  refine q_drop (.inr rfl) (by simp;exact Rz) (by simp) ⟨rfl,rfl⟩
theorem c_r1SameZ (H:Heap):ACalls Try.prog F.ref01_Same [.agg [.nilslice],.agg [.nilslice]] H (fun v h'=>v=.bool true∧h'=H):=by
  refine acalls_of ok_ref01_Same rfl fun hcl=>?_
  unfold ac_ref01_Same zo
  simp only [argsT,Nat.zero_add,Nat.reduceAdd]
  repeat (first|(with_reducible first|apply X1|apply X2|apply X5|apply X6|apply X8)|((with_reducible apply e_end);(simp;exact Rz))|((with_reducible apply O1);rfl;(simp (disch:=omega);exact Rz);exact Rz;(focus (first|(simp;done)|omega|(simp;omega))))|((with_reducible apply W3);(simp (disch:=omega);exact Rz)))
  refine e_loop (ι:=Unit) (fun _=>[(2,.ptr H.length 0),(3,.ptr (H.length+1) 0),(5,.int .i64 0)]) (fun _=>H++[.cells [.nilslice] true,.cells [.nilslice] true]) (fun _=>0) () ?_ ?_
  · exact .inl rfl
  · rintro⟨⟩
    repeat (first|(with_reducible first|apply X1|apply X2|apply X3|apply X4|apply X8|apply Y1|apply Y4|apply Y6)|((with_reducible apply e_end);(simp;exact Rz))|((with_reducible apply O1);rfl;(simp (disch:=omega);exact Rz);exact Rz;(focus (first|(simp;done)|omega|(simp;omega))))|((with_reducible apply W3);(simp (disch:=omega);exact Rz)))
    refine q_drop (.inr rfl) (by simp;exact Rz) (by simp) ⟨rfl,rfl⟩
theorem c_r2SameZ (H:Heap):ACalls Try.prog F.ref02_Same [.agg zc,.agg zc] H (fun v h'=>v=.bool true∧h'=H):=by
  refine acalls_of ok_ref02_Same rfl fun hcl=>?_
  unfold ac_ref02_Same zo
  simp only [argsT,Nat.zero_add,Nat.reduceAdd]
  simp only [zc]
  repeat (first|(with_reducible first|apply X1|apply X2|apply X8)|((with_reducible apply e_end);(simp;exact Rz))|((with_reducible apply O1);rfl;(simp (disch:=omega);exact Rz);exact Rz;(focus (first|(simp;done)|omega|(simp;omega)))))
  (with_reducible apply e_call);(simp;exact Rz);exact c_r1SameZ _
  rintro _ _ ⟨rfl,rfl⟩
  repeat (first|(with_reducible first|apply X1|apply X2|apply X5|apply X6|apply X8)|((with_reducible apply e_end);(simp;exact Rz))|((with_reducible apply O1);rfl;(simp (disch:=omega);exact Rz);exact Rz;(focus (first|(simp;done)|omega|(simp;omega))))|((with_reducible apply Z7);(simp (disch:=omega);exact Rz))|((with_reducible apply W3);(simp (disch:=omega);exact Rz)))
  refine e_loop (ι:=Unit) (fun _=>[(2,.ptr H.length 0),(3,.ptr (H.length+1) 0),(5,.int .i64 0)]) (fun _=>H++[.cells zc true,.cells zc true]) (fun _=>0) () ?_ ?_
  · exact .inl rfl
  · rintro⟨⟩
    simp only [zc]
    repeat (first|(with_reducible first|apply X1|apply X2|apply X4|apply X6|apply X8|apply Y1|apply Y4|apply Y6)|((with_reducible apply e_end);(simp;exact Rz))|((with_reducible apply O1);rfl;(simp (disch:=omega);exact Rz);exact Rz;(focus (first|(simp;done)|omega|(simp;omega))))|((with_reducible apply W3);(simp (disch:=omega);exact Rz)))
    refine e_loop (ι:=Unit) (fun _=>[(2,.ptr H.length 0),(3,.ptr (H.length+1) 0),(6,.int .i64 0)]) (fun _=>H++[.cells zc true,.cells zc true]) (fun _=>0) () ?_ ?_
    · exact .inl rfl
    · rintro⟨⟩
      simp only [zc]
      repeat (first|(with_reducible first|apply X1|apply X2|apply X3|apply X4|apply X8|apply Y1|apply Y4|apply Y6)|((with_reducible apply e_end);(simp;exact Rz))|((with_reducible apply O1);rfl;(simp (disch:=omega);exact Rz);exact Rz;(focus (first|(simp;done)|omega|(simp;omega))))|((with_reducible apply W3);(simp (disch:=omega);exact Rz)))
      refine q_drop (.inr rfl) (by simp;exact Rz) (by simp) ⟨rfl,rfl⟩
theorem chkE_ex' (l:List Str) (c:Cv):∃ e,chkE l c e:=by
  by_cases h1:validL l
  · by_cases h2:c.ok l.length
    · exact⟨0,.inl ⟨h1,h2,rfl⟩⟩
    · exact⟨20,.inr (.inr ⟨h1,h2,rfl⟩)⟩
  · exact⟨10,.inr (.inl ⟨h1,rfl⟩)⟩
theorem IAt.nil (H:Heap):IAt H .nilslice []:=⟨rfl,.inl ⟨rfl,rfl⟩⟩
def PlZ (h:Heap) (v:AV) (n:Nat) (L:Nat→List Int):Prop:=(v=.nilslice∧n=0)∨(0<n∧PlAt h v n L)
theorem PlZ.app {h:Heap} {v:AV} {n:Nat} {L:Nat→List Int} (hp:PlZ h v n L) (G:Heap):PlZ (h++G) v n L:=by
  rcases hp with h1|⟨h1,h2⟩
  · exact .inl h1
  · exact .inr ⟨h1,h2.app G⟩
theorem PlAt.congr {h:Heap} {v:AV} {n:Nat} {L O:Nat→List Int} (hp:PlAt h v n L) (he:∀ k,k<n→L k=O k):PlAt h v n O:=by
  obtain⟨pid,off,ex,vs,h1,h2,h3⟩:=hp
  exact⟨pid,off,ex,vs,h1,h2,fun k hk=>by rw [← he k hk];exact h3 k hk⟩
theorem memL_len (set:Nat):((memL set 8).length:Int)<1000000:=by
  have:=memL_le set 8
  omega
section
variable (l:List Str) (c:Cv) (hn:(l.length:Int)<1000000) (hn1:(c.bs.length:Int)<1000000) (hn2:(c.hs.length:Int)<1000000)
include hn hn1 hn2
theorem need_both:∃ (e:Int) (xs:List Int),(xs.length:Int)<1000000 ∧
    (∀ (H:Heap) (p:Plc),CvAt H c p→TrAt H l p→ACalls Try.prog F.ice_Need [.agg (c.av p)] H (fun v h'=>∃ lv G,h'=H++G∧v=.tuple [lv,.int .i64 e]∧IAt h' lv xs)) ∧
    (∀ (H:Heap) (p:Plc),CvAt H c p→TrAt H l p→ACalls Try.prog F.ref02_Need [.agg (c.av p)] H (fun v h'=>∃ lv G,h'=H++G∧v=.tuple [lv,.int .i64 e]∧IAt h' lv xs)):=by
  by_cases hv:validL l∧c.ok l.length
  · refine⟨0,tnL (fun s=>ndF c s c.hs.length) c.bs.length,by rw [tnL_len];exact hn1,fun H p hp ht=>(c_iNeedV H l c p hp ht hv.2 hv.1).mono ?_,fun H p hp ht=>(c_r2NeedV H l c p hp ht hv.2 hv.1).mono ?_⟩
    · rintro _ _ ⟨rfl,rfl⟩
      refine⟨_,_,rfl,rfl,?_⟩
      have:=ls_int H (tnL (fun s=>ndF c s c.hs.length) c.bs.length)
      rwa [tnL_len] at this
    · rintro _ _ ⟨lv,G,rfl,rfl,hl⟩
      refine⟨_,_,rfl,rfl,?_⟩
      have:=hl.l.r
      simp only [IAt,tnL_len];exact this
  · obtain⟨e,he⟩:=chkE_ex' l c
    refine⟨e,[],by simp,fun H p hp ht=>(c_iNeedE H l c p hp ht hn hn1 hn2 hv).mono ?_,fun H p hp ht=>(c_r2NeedE H l c p hp ht hn hn1 hn2 hv).mono ?_⟩
    · rintro _ _ ⟨e',he',rfl,rfl⟩
      rw [chkE_uniq he' he]
      exact⟨_,[],(List.append_nil _).symm,rfl,IAt.nil _⟩
    · rintro _ _ ⟨e',he',rfl,rfl⟩
      rw [chkE_uniq he' he]
      exact⟨_,[],(List.append_nil _).symm,rfl,IAt.nil _⟩
theorem plan_both:∃ (e:Int) (n:Nat) (L:Nat→List Int),n≤1000∧(∀ k,k<n→((L k).length:Int)<1000000) ∧
    (∀ (H:Heap) (p:Plc),CvAt H c p→TrAt H l p→ACalls Try.prog F.ice_Plan [.agg (c.av p)] H (fun v h'=>∃ lv G,h'=H++G∧v=.tuple [lv,.int .i64 e]∧PlZ h' lv n L)) ∧
    (∀ (H:Heap) (p:Plc),CvAt H c p→TrAt H l p→ACalls Try.prog F.ref02_Plan [.agg (c.av p)] H (fun v h'=>∃ lv G,h'=H++G∧v=.tuple [lv,.int .i64 e]∧PlZ h' lv n L)):=by
  by_cases hv:validL l∧c.ok l.length
  · obtain⟨hv,hc⟩:=hv
    have h12:=hv.1
    have hlen:=hc.len
    have h8:=hc.hours
    have fe:∀ L,BestP c L→feasR c (fun _ _=>none):=fun L hL=>(feas0_iff (by omega) (by omega)).2 ⟨inP L,hL.good.rows,hL.good.needs⟩
    by_cases hb:∃ L,BestP c L
    · obtain⟨L,hL⟩:=hb
      refine⟨0,c.hs.length,L,by omega,fun k hk=>by have:=(hL.ok k hk).1;have:=hands_bd hc k hk;omega,fun H p hp ht=>(c_PlanV H l c p hp ht hc hv).mono ?_,fun H p hp ht=>(c_r2PlanV H l c p hp ht hc hv).mono ?_⟩
      · rintro _ _ (⟨pl,G,O,rfl,rfl,hpl,hO⟩|⟨hs,_⟩)
        · exact⟨_,_,rfl,rfl,.inr ⟨by omega,hpl.congr fun k hk=>hO.uniq hL hk⟩⟩
        · exact absurd (fe L hL) (hs.no (by omega))
      · rintro _ _ (⟨pl,G,O,rfl,rfl,hpl,hO⟩|⟨hs,_⟩)
        · exact⟨_,_,rfl,rfl,.inr ⟨by omega,hpl.congr fun k hk=>hO.uniq hL hk⟩⟩
        · exact absurd (fe L hL) hs
    · refine⟨8,0,fun _=>[],by omega,fun k hk=>by omega,fun H p hp ht=>(c_PlanV H l c p hp ht hc hv).mono ?_,fun H p hp ht=>(c_r2PlanV H l c p hp ht hc hv).mono ?_⟩
      · rintro _ _ (⟨pl,G,O,rfl,rfl,hpl,hO⟩|⟨hs,rfl,rfl⟩)
        · exact absurd ⟨O,hO⟩ hb
        · exact⟨_,[],(List.append_nil _).symm,rfl,.inl ⟨rfl,rfl⟩⟩
      · rintro _ _ (⟨pl,G,O,rfl,rfl,hpl,hO⟩|⟨hs,rfl,rfl⟩)
        · exact absurd ⟨O,hO⟩ hb
        · exact⟨_,[],(List.append_nil _).symm,rfl,.inl ⟨rfl,rfl⟩⟩
  · obtain⟨e,he⟩:=chkE_ex' l c
    refine⟨e,0,fun _=>[],by omega,fun k hk=>by omega,fun H p hp ht=>(c_iPlanE H l c p hp ht hn hn1 hn2 hv).mono ?_,fun H p hp ht=>(c_r2PlanE H l c p hp ht hn hn1 hn2 hv).mono ?_⟩
    · rintro _ _ ⟨e',he',rfl,rfl⟩
      rw [chkE_uniq he' he]
      exact⟨_,[],(List.append_nil _).symm,rfl,.inl ⟨rfl,rfl⟩⟩
    · rintro _ _ ⟨e',he',rfl,rfl⟩
      rw [chkE_uniq he' he]
      exact⟨_,[],(List.append_nil _).symm,rfl,.inl ⟨rfl,rfl⟩⟩
theorem short_both:∃ (e m:Int) (xs:List Int),(xs.length:Int)<1000000 ∧
    (∀ (H:Heap) (p:Plc),CvAt H c p→TrAt H l p→ACalls Try.prog F.ice_Short [.agg (c.av p)] H (fun v h'=>∃ lv G,h'=H++G∧v=.tuple [.int .i64 m,lv,.int .i64 e]∧IAt h' lv xs)) ∧
    (∀ (H:Heap) (p:Plc),CvAt H c p→TrAt H l p→ACalls Try.prog F.ref02_Short [.agg (c.av p)] H (fun v h'=>∃ lv G,h'=H++G∧v=.tuple [.int .i64 m,lv,.int .i64 e]∧IAt h' lv xs)):=by
  by_cases hv:validL l∧c.ok l.length
  · obtain⟨hv,hc⟩:=hv
    have un:∀ a b,a<c.hs.length→b<c.hs.length→(∀ k,k<a→shN c k=0)→0<shN c a→(∀ k,k<b→shN c k=0)→0<shN c b→a=b:=fun a b ha hb h1 h2 h3 h4=>by
      rcases Nat.lt_trichotomy a b with h|h|h
      · have:=h3 a h;omega
      · exact h
      · have:=h1 b h;omega
    by_cases hb:∃ a,a<c.hs.length∧(∀ k,k<a→shN c k=0)∧0<shN c a
    · obtain⟨a,ha,hz,h0⟩:=hb
      obtain⟨set,_,_,hset⟩:=shOf_set h0
      refine⟨0,a,shOf c a,by rw [hset];exact memL_len set,fun H p hp ht=>(c_ShortV H l c p hp ht hc hv).mono ?_,fun H p hp ht=>(c_r2ShortV H l c p hp ht hc hv).mono ?_⟩
      · rintro _ _ (⟨b,h1,h2,h3,rfl,rfl⟩|⟨h1,_⟩)
        · obtain rfl:=un b a h1 ha h2 h3 hz h0
          exact⟨_,_,rfl,rfl,ls_int _ _⟩
        · have:=h1 a ha;omega
      · rintro _ _ (⟨b,bv,G,h1,h2,h3,rfl,rfl,hl⟩|⟨h1,_⟩)
        · obtain rfl:=un b a h1 ha h2 h3 hz h0
          exact⟨_,_,rfl,rfl,hl⟩
        · have:=h1 a ha;omega
    · refine⟨6,0,[],by simp,fun H p hp ht=>(c_ShortV H l c p hp ht hc hv).mono ?_,fun H p hp ht=>(c_r2ShortV H l c p hp ht hc hv).mono ?_⟩
      · rintro _ _ (⟨b,h1,h2,h3,rfl,rfl⟩|⟨h1,rfl,rfl⟩)
        · exact absurd ⟨b,h1,h2,h3⟩ hb
        · exact⟨_,[],(List.append_nil _).symm,rfl,IAt.nil _⟩
      · rintro _ _ (⟨b,bv,G,h1,h2,h3,rfl,rfl,hl⟩|⟨h1,rfl,rfl⟩)
        · exact absurd ⟨b,h1,h2,h3⟩ hb
        · exact⟨_,[],(List.append_nil _).symm,rfl,IAt.nil _⟩
  · obtain⟨e,he⟩:=chkE_ex' l c
    refine⟨e,0,[],by simp,fun H p hp ht=>(c_iShortE H l c p hp ht hn hn1 hn2 hv).mono ?_,fun H p hp ht=>(c_r2ShortE H l c p hp ht hn hn1 hn2 hv).mono ?_⟩
    · rintro _ _ ⟨e',he',rfl,rfl⟩
      rw [chkE_uniq he' he]
      exact⟨_,[],(List.append_nil _).symm,rfl,IAt.nil _⟩
    · rintro _ _ ⟨e',he',rfl,rfl⟩
      rw [chkE_uniq he' he]
      exact⟨_,[],(List.append_nil _).symm,rfl,IAt.nil _⟩
end
def DrAt (h:Heap) (l:List Str) (o:Option Cv) (d:List AV):Prop:=(o=none∧d=zc)∨∃ w p,o=some w∧d=w.av p∧CvAt h w p∧TrAt h l p∧w.bs.length≤1000∧w.hs.length≤1000
theorem DrAt.app {h:Heap} {l:List Str} {o:Option Cv} {d:List AV} (hd:DrAt h l o d) (G:Heap):DrAt (h++G) l o d:=by
  rcases hd with h|⟨w,p,h1,h2,h3,h4,h5⟩
  · exact .inl h
  · exact .inr ⟨w,p,h1,h2,h3.app G,h4.app G,h5⟩
theorem DrAt.len {h:Heap} {l:List Str} {o:Option Cv} {d:List AV} (hd:DrAt h l o d):d.length=10:=by
  rcases hd with⟨_,rfl⟩|⟨w,p,_,rfl,_⟩ <;> rfl
theorem drillE_uniq {l:List Str} {c:Cv} {at_ a b e e':Int} (h:drillE l c at_ a b e) (h':drillE l c at_ a b e'):e=e':=by
  rcases h with⟨rfl,h⟩|⟨rfl,h,h2⟩|⟨rfl,h,k,h2,h3,h4⟩ <;> rcases h' with⟨rfl,g⟩|⟨rfl,g,g2⟩|⟨rfl,g,k',g2,g3,g4⟩
  · rfl
  · exact absurd g h
  · exact absurd g h
  · exact absurd h g
  · rfl
  · exact absurd ⟨k',g2,g3⟩ h2
  · exact absurd h g
  · exact absurd ⟨k,h2,h3⟩ g2
  · rfl
theorem drillE_no {l:List Str} {c:Cv} {at_ a b e:Int} (h:drillE l c at_ a b e) {k:Nat} (hk:k<c.bs.length) (hp:plL_ l at_=[k]) (hf:0≤a∧a≤b∧b≤2000) (hm:max (c.b k).lo a≤min (c.b k).hi b):False:=by
  rcases h with⟨_,h⟩|⟨_,_,h⟩|⟨_,_,k',h1,h2,h3⟩
  · exact h hf
  · exact h ⟨k,hk,hp⟩
  · rw [hp] at h2
    obtain rfl:k=k':=by injection h2
    omega
theorem drill_both (l:List Str) (c:Cv) (hn:(l.length:Int)<1000000) (hn1:(c.bs.length:Int)<1000000) (hn2:(c.hs.length:Int)<1000000) (at_ a b:Int):∃ (e:Int) (o:Option Cv),
    (∀ (H:Heap) (p:Plc),CvAt H c p→TrAt H l p→ACalls Try.prog F.ice_Drill [.agg (c.av p),.int .i64 at_,.agg [.int .i64 a,.int .i64 b]] H (fun v h'=>∃ d G,h'=H++G∧v=.tuple [.agg d,.int .i64 e]∧DrAt h' l o d)) ∧
    (∀ (H:Heap) (p:Plc),CvAt H c p→TrAt H l p→ACalls Try.prog F.ref02_Drill [.agg (c.av p),.int .i64 at_,.agg [.int .i64 a,.int .i64 b]] H (fun v h'=>∃ d G,h'=H++G∧v=.tuple [.agg d,.int .i64 e]∧DrAt h' l o d)):=by
  by_cases hv:validL l∧c.ok l.length
  · obtain⟨hv,hc⟩:=hv
    have h12:=hv.1
    have hlen:=hc.len
    have h8:=hc.hours
    by_cases hr:0≤at_∧at_≤360000
    · by_cases hb:∃ e,drillE l c at_ a b e
      · obtain⟨e,he⟩:=hb
        refine⟨e,none,fun H p hp ht=>(c_iDrill H l c p hp ht hv hc at_ a b hr.1 hr.2).mono ?_,fun H p hp ht=>(c_r2Drill H l c p hp ht hv hc at_ a b hr.1 hr.2).mono ?_⟩
        · rintro _ _ ⟨G,rfl,⟨e',rfl,he'⟩|⟨k,p2,h1,h2,h3,h4,rfl,h5,h6⟩⟩
          · rw [drillE_uniq he' he]
            exact⟨_,_,rfl,rfl,.inl ⟨rfl,rfl⟩⟩
          · exact (drillE_no he h1 h2 h3 h4).elim
        · rintro _ _ ⟨G,rfl,⟨e',rfl,he'⟩|⟨k,p2,h1,h2,h3,h4,rfl,h5,h6⟩⟩
          · rw [drillE_uniq he' he]
            exact⟨_,_,rfl,rfl,.inl ⟨rfl,rfl⟩⟩
          · exact (drillE_no he h1 h2 h3 h4).elim
      · have hf:0≤a∧a≤b∧b≤2000:=by
          by_cases h:0≤a∧a≤b∧b≤2000
          · exact h
          · exact absurd ⟨2,.inl ⟨rfl,h⟩⟩ hb
        obtain⟨k,hk,hpk⟩:∃ k,k<c.bs.length∧plL_ l at_=[k]:=by
          by_cases h:∃ k,k<c.bs.length∧plL_ l at_=[k]
          · exact h
          · exact absurd ⟨6,.inr (.inl ⟨rfl,hf,h⟩)⟩ hb
        have ki:∀ k',plL_ l at_=[k']→k'=k:=fun k' h=>by rw [hpk] at h;injection h with h;exact h.symm
        refine⟨0,some (c.withB k (max (c.b k).lo a) (min (c.b k).hi b)),fun H p hp ht=>(c_iDrill H l c p hp ht hv hc at_ a b hr.1 hr.2).mono ?_,fun H p hp ht=>(c_r2Drill H l c p hp ht hv hc at_ a b hr.1 hr.2).mono ?_⟩
        · rintro _ _ ⟨G,rfl,⟨e',rfl,he'⟩|⟨k',p2,h1,h2,h3,h4,rfl,h5,h6⟩⟩
          · exact absurd ⟨e',he'⟩ hb
          · obtain rfl:=ki k' h2
            exact⟨_,_,rfl,rfl,.inr ⟨_,p2,rfl,rfl,h5,h6,by rw [withB_len];omega,by show c.hs.length≤1000;omega⟩⟩
        · rintro _ _ ⟨G,rfl,⟨e',rfl,he'⟩|⟨k',p2,h1,h2,h3,h4,rfl,h5,h6⟩⟩
          · exact absurd ⟨e',he'⟩ hb
          · obtain rfl:=ki k' h2
            exact⟨_,_,rfl,rfl,.inr ⟨_,p2,rfl,rfl,h5,h6,by rw [withB_len];omega,by show c.hs.length≤1000;omega⟩⟩
    · refine⟨2,none,fun H p hp ht=>(c_iDrillO H l c p hp ht hv hc at_ a b hr).mono ?_,fun H p hp ht=>(c_r2DrillO H l c p hp ht hv hc at_ a b hr).mono ?_⟩
      · rintro _ _ ⟨rfl,rfl⟩
        exact⟨_,[],(List.append_nil _).symm,rfl,.inl ⟨rfl,rfl⟩⟩
      · rintro _ _ ⟨rfl,rfl⟩
        exact⟨_,[],(List.append_nil _).symm,rfl,.inl ⟨rfl,rfl⟩⟩
  · obtain⟨e,he⟩:=chkE_ex' l c
    refine⟨e,none,fun H p hp ht=>(c_iDrillE H l c p hp ht hn hn1 hn2 hv at_ a b).mono ?_,fun H p hp ht=>(c_r2DrillE H l c p hp ht hn hn1 hn2 hv at_ a b).mono ?_⟩
    · rintro _ _ ⟨e',he',rfl,rfl⟩
      rw [chkE_uniq he' he]
      exact⟨_,[],(List.append_nil _).symm,rfl,.inl ⟨rfl,rfl⟩⟩
    · rintro _ _ ⟨e',he',rfl,rfl⟩
      rw [chkE_uniq he' he]
      exact⟨_,[],(List.append_nil _).symm,rfl,.inl ⟨rfl,rfl⟩⟩
theorem c_r2SameO (H:Heap) (l:List Str) (o:Option Cv) (d d':List AV) (hd:DrAt H l o d) (hd':DrAt H l o d') (hn:l.length≤1000) :
    ACalls Try.prog F.ref02_Same [.agg d,.agg d'] H (fun v h'=>v=.bool true∧h'=H):=by
  rcases hd with⟨h1,rfl⟩|⟨w,p,h1,rfl,h2,h3,h4,h5⟩
  · rcases hd' with⟨_,rfl⟩|⟨w',p',h1',_⟩
    · exact c_r2SameZ H
    · rw [h1] at h1';cases h1'
  · rcases hd' with⟨h1',rfl⟩|⟨w',p',h1',rfl,h2',h3',_⟩
    · rw [h1] at h1';cases h1'
    · obtain rfl:w=w':=by rw [h1] at h1';injection h1'
      exact c_r2SameD H l w p p' h2 h2' h3 h3' hn h4 h5
theorem c_r2SameLZ (H:Heap) (a b:AV) (n:Nat) (L:Nat→List Int) (ha:PlZ H a n L) (hb:PlZ H b n L) (hn:n≤1000) (hL:∀ k,k<n→((L k).length:Int)<1000000):ACalls Try.prog F.ref02_SameLists [a,b] H (fun v h'=>v=.bool true∧h'=H):=by
  rcases ha with⟨rfl,rfl⟩|⟨h1,ha⟩ <;> rcases hb with⟨rfl,h0⟩|⟨h2,hb⟩
  · refine acalls_of ok_ref02_SameLists rfl fun hcl=>?_
    unfold ac_ref02_SameLists zo
    simp only [argsT,Nat.zero_add,Nat.reduceAdd]
    repeat (first|(with_reducible first|apply X1|apply X2|apply X5|apply X6|apply X8)|((with_reducible apply e_end);(simp;exact Rz))|((with_reducible apply O1);rfl;(simp (disch:=omega);exact Rz);exact Rz;(focus (first|(simp;done)|omega|(simp;omega))))|((with_reducible apply W3);(simp (disch:=omega);exact Rz)))
    refine e_loop (ι:=Unit) (fun _=>[(0,.nilslice),(1,.nilslice),(5,.int .i64 0)]) (fun _=>H) (fun _=>0) () ?_ ?_
    · exact .inr <| le_id (by simp)
    · rintro⟨⟩
      repeat (first|(with_reducible first|apply X1|apply X2|apply X3|apply X4|apply X8|apply Y1|apply Y4|apply Y6)|((with_reducible apply e_end);(simp;exact Rz))|((with_reducible apply O1);rfl;(simp (disch:=omega);exact Rz);exact Rz;(focus (first|(simp;done)|omega|(simp;omega))))|((with_reducible apply W3);(simp (disch:=omega);exact Rz)))
      refine q_stay (.inr rfl) (by simp;exact Rz) ⟨rfl,rfl⟩
  · exact absurd h2 (by omega)
  · exact absurd h1 (by omega)
  · exact c_r2SameLists H a b n L ha hb hn hL
end Go.Proofs
