/- The law IcePlans: its contract, whole. -/
import Derived.Test.YtgaojjbkaoankaaRC
import Derived.Test.YtgaojjbkaoankaaRA
namespace Go.Proofs
open Go.Abs
attribute [local simp] AOp.den AOpd.ev lk cellsOf rd_new rd_new0 rd_zero rd_succ wr_new wr_new0 wr_zero wr_succ splice fillA binA scal sliceCells List.length_append argsT AV.sc scL AObj.sc resV getAll AR.get AOp.slots opdSlots opdsSlots partSlots eqAt at_new0 at_new set_new0 set_new wrap64
set_option linter.unusedSimpArgs false
set_option linter.unusedVariables false
theorem DrAt.scal {h:Heap} {l:List Str} {o:Option Cv} {d:List AV} (hd:DrAt h l o d):d.all Abs.scal=true:=by
  rcases hd with⟨_,rfl⟩|⟨w,p,_,rfl,_⟩ <;> rfl
theorem DrAt.sc {h:Heap} {l:List Str} {o:Option Cv} {d:List AV} (hd:DrAt h l o d) (k:Nat):scL (h.length+k) d=true:=by
  rcases hd with⟨_,rfl⟩|⟨w,p,_,rfl,h1,h2,_⟩
  · rfl
  · have:=h1.t;have:=rd_lt h1.b;have:=rd_lt h1.h;simp [Cv.av,scL,AV.sc];omega
theorem splice_new {d:List AV} {z:List AV} (h:d.length=z.length):splice z 0 d=d:=by
  simp [splice,h]
theorem gen_opsH {P:Program} {l:List AO} {K:St→Prop} {t:List (Nat × AV)} {h:Heap} (F:Heap→Prop) (hF:F h) (hn:∀ h,F h→EOps P l K t h):EOps P l K t h:=hn h hF
structure WP (X:Heap) (l:List Str) (c:Cv) (p p2:Plc) (q3 q5 q7:Nat) (a b:Int):Prop where
  cv:CvAt X c p
  tr:TrAt X l p
  cv2:CvAt X c p2
  tr2:TrAt X l p2
  r3:rd X q3 0 10=some (c.av p)
  r5:rd X q5 0 2=some [.int .i64 a,.int .i64 b]
  r7:rd X q7 0 10=some (c.av p2)
theorem WP.app {X:Heap} {l:List Str} {c:Cv} {p p2:Plc} {q3 q5 q7:Nat} {a b:Int} (w:WP X l c p p2 q3 q5 q7 a b) (G:Heap):WP (X++G) l c p p2 q3 q5 q7 a b :=
  ⟨w.cv.app G,w.tr.app G,w.cv2.app G,w.tr2.app G,by rw [rd_old _ (rd_lt w.r3)];exact w.r3,by rw [rd_old _ (rd_lt w.r5)];exact w.r5,by rw [rd_old _ (rd_lt w.r7)];exact w.r7⟩
set_option maxHeartbeats 4000000 in
theorem c_lawIP (H:Heap) (l:List Str) (c:Cv) (p:Plc) (at_ a b:Int) (hp:CvAt H c p) (ht:TrAt H l p) (hw:(l.length:Int)≤9223372036854775807) (hw1:(c.bs.length:Int)≤9223372036854775807) (hw2:(c.hs.length:Int)≤9223372036854775807) (_:-9223372036854775808≤at_∧at_≤9223372036854775807) (_:-9223372036854775808≤a∧a≤9223372036854775807) (_:-9223372036854775808≤b∧b≤9223372036854775807) :
    ACalls Try.prog F.law02_IcePlans [.agg (c.av p),.int .i64 at_,.agg [.int .i64 a,.int .i64 b]] H (fun v _=>v=.bool true):=by
  have hp1:=hp.t
  have hp2:=rd_lt hp.b
  have hp3:=rd_lt hp.h
  have htn:=ht.n
  obtain⟨b0,h0⟩:=bof (20<p.tn∨20<c.bs.length∨12<c.hs.length)
  have kg:=fun G=>c_r2GreatN (H++G) c p (hp.app G) (by omega) hw1 hw2 h0
  simp only [Cv.av] at kg
  refine acalls_of ok_law02_IcePlans rfl fun hcl=>?_
  unfold ac_law02_IcePlans zo
  simp only [argsT,Nat.zero_add,Nat.reduceAdd]
  simp only [Cv.av]
  repeat (first|(with_reducible first|apply X1|apply X2|apply X8)|((with_reducible apply e_end);(simp;exact Rz))|((with_reducible apply O1);rfl;(simp (disch:=omega);exact Rz);exact Rz;(focus (first|(simp;done)|omega|(simp;omega)))))
  (with_reducible apply e_call);(simp;exact Rz);exact kg _
  rintro _ _ ⟨rfl,rfl⟩
  cases b0 with
  | true =>
    repeat (first|(with_reducible first|apply X1|apply X2|apply X3|apply X8|apply X9)|((with_reducible apply e_end);(simp;exact Rz))|((with_reducible apply O1);rfl;(simp (disch:=omega);exact Rz);exact Rz;(focus (first|(simp;done)|omega|(simp;omega))))|((with_reducible apply Z9);(simp (disch:=omega);exact Rz)))
    exact q_stay (.inr rfl) (by simp;exact Rz) rfl
  | false =>
  have hno:¬ (20<p.tn∨20<c.bs.length∨12<c.hs.length):=fun h=>by have:=h0.2 h;cases this
  have ht20:l.length≤20:=by rw [← htn];omega
  have hb20:c.bs.length≤20:=by omega
  have hh12:c.hs.length≤12:=by omega
  have ktw:=fun G=>c_r2Twin (H++G) l c p (hp.app G) (ht.app G) (by omega) (by omega) (by omega)
  obtain⟨e1,xs1,hx1,kn1,kn2⟩:=need_both l c (by omega) (by omega) (by omega)
  obtain⟨e2,n2,L2,hn2,hL2,kp1,kp2⟩:=plan_both l c (by omega) (by omega) (by omega)
  obtain⟨e3,m3,xs3,hx3,ks1,ks2⟩:=short_both l c (by omega) (by omega) (by omega)
  obtain⟨e4,o4,kd1,kd2⟩:=drill_both l c (by omega) (by omega) (by omega) at_ a b
  simp only [Cv.av,twP] at ktw
  repeat (first|(with_reducible first|apply X1|apply X2|apply X5|apply X8)|((with_reducible apply e_end);(simp;exact Rz))|((with_reducible apply O1);rfl;(simp (disch:=omega);exact Rz);exact Rz;(focus (first|(simp;done)|omega|(simp;omega))))|((with_reducible apply W3);(simp (disch:=omega);exact Rz)))
  (with_reducible apply e_call);(simp;exact Rz);exact ktw _
  rintro _ _ ⟨rfl,rfl⟩
  repeat (first|(with_reducible first|apply X1|apply X2|apply X8)|((with_reducible apply e_end);(simp;exact Rz))|((first|((with_reducible apply O1);rfl)|((with_reducible apply O2);rfl));(simp (disch:=omega);exact Rz);exact Rz;(focus (first|(simp;done)|omega|(simp;omega)))))
  refine gen_ops (fun t X=>∃ (q3 q5 q7:Nat) (p2:Plc),t=[(31,.agg (c.av p2)),(1,.int .i64 at_),(3,.ptr q3 0),(5,.ptr q5 0),(7,.ptr q7 0)]∧WP X l c p p2 q3 q5 q7 a b) ?_ ?_
  · refine⟨_,_,_,⟨H.length+2,0,false,l.length,H.length+2+1,0,false,H.length+2+2,0,false⟩,by simp only [Cv.av];rfl,hp.app _,ht.app _,⟨by simp,?_,?_⟩,⟨rfl,?_⟩,by simp [Cv.av],by simp,by simp [Cv.av,Nat.add_assoc]⟩
    · exact rd_full (b:=true) (by simp [at_new,Nat.add_assoc]) (flatB_len Bd.av_length c.bs)
    · exact rd_full (b:=true) (by simp [at_new,Nat.add_assoc]) (flatB_len Hr.av_length c.hs)
    · exact rd_full (b:=true) (by simp [at_new,Nat.add_assoc]) (flatB_len Str.av_length l)
  clear ktw kg
  clear hp1 hp2 hp3 hp ht
  rintro _ X ⟨q3,q5,q7,p2,rfl,w⟩
  have y3:=rd_lt w.r3
  have y5:=rd_lt w.r5
  have y7:=rd_lt w.r7
  have r3:=w.r3
  have r5:=w.r5
  have r7:=w.r7
  (with_reducible apply e_call);(simp;exact Rz);exact kn1 X p2 w.cv2 w.tr2
  rintro _ _ ⟨vn1,G,rfl,rfl,gn1⟩
  repeat (first|(with_reducible first|apply X1|apply X2|apply X8)|((with_reducible apply e_end);(simp;exact Rz))|((with_reducible apply O1);rfl;(simp (disch:=omega) [rd_old _ y3,r3,rd_old _ y5,r5,rd_old _ y7,r7];exact Rz);exact Rz;(focus (first|(simp;done)|omega|(simp;omega)))))
  refine gen_opsH (fun Y=>WP Y l c p p2 q3 q5 q7 a b∧IAt Y vn1 xs1) ⟨w.app _,gn1⟩ ?_
  clear w y3 y5 y7 r3 r5 r7 gn1
  clear G
  try clear X
  rintro X ⟨w,gn1⟩
  have y3:=rd_lt w.r3
  have y5:=rd_lt w.r5
  have y7:=rd_lt w.r7
  have r3:=w.r3
  have r5:=w.r5
  have r7:=w.r7
  (with_reducible apply e_call);(simp;exact Rz);exact kn2 X p w.cv w.tr
  rintro _ _ ⟨vn2,G,rfl,rfl,gn2⟩
  repeat (first|(with_reducible first|apply X1|apply X2|apply X8)|((with_reducible apply e_end);(simp;exact Rz))|((with_reducible apply O1);rfl;(simp (disch:=omega) [rd_old _ y3,r3,rd_old _ y5,r5,rd_old _ y7,r7];exact Rz);exact Rz;(focus (first|(simp;done)|omega|(simp;omega)))))
  refine gen_opsH (fun Y=>WP Y l c p p2 q3 q5 q7 a b∧IAt Y vn1 xs1∧IAt Y vn2 xs1) ⟨w.app _,gn1.app _,gn2⟩ ?_
  clear w y3 y5 y7 r3 r5 r7 gn1 gn2
  clear G
  try clear X
  rintro X ⟨w,gn1,gn2⟩
  have y3:=rd_lt w.r3
  have y5:=rd_lt w.r5
  have y7:=rd_lt w.r7
  have r3:=w.r3
  have r5:=w.r5
  have r7:=w.r7
  (with_reducible apply e_call);(simp;exact Rz);exact kp1 X p2 w.cv2 w.tr2
  rintro _ _ ⟨vp1,G,rfl,rfl,gp1⟩
  repeat (first|(with_reducible first|apply X1|apply X2|apply X8)|((with_reducible apply e_end);(simp;exact Rz))|((with_reducible apply O1);rfl;(simp (disch:=omega) [rd_old _ y3,r3,rd_old _ y5,r5,rd_old _ y7,r7];exact Rz);exact Rz;(focus (first|(simp;done)|omega|(simp;omega)))))
  refine gen_opsH (fun Y=>WP Y l c p p2 q3 q5 q7 a b∧IAt Y vn1 xs1∧IAt Y vn2 xs1∧PlZ Y vp1 n2 L2) ⟨w.app _,gn1.app _,gn2.app _,gp1⟩ ?_
  clear w y3 y5 y7 r3 r5 r7 gn1 gn2 gp1
  clear G
  try clear X
  rintro X ⟨w,gn1,gn2,gp1⟩
  have y3:=rd_lt w.r3
  have y5:=rd_lt w.r5
  have y7:=rd_lt w.r7
  have r3:=w.r3
  have r5:=w.r5
  have r7:=w.r7
  (with_reducible apply e_call);(simp;exact Rz);exact kp2 X p w.cv w.tr
  rintro _ _ ⟨vp2,G,rfl,rfl,gp2⟩
  repeat (first|(with_reducible first|apply X1|apply X2|apply X8)|((with_reducible apply e_end);(simp;exact Rz))|((with_reducible apply O1);rfl;(simp (disch:=omega) [rd_old _ y3,r3,rd_old _ y5,r5,rd_old _ y7,r7];exact Rz);exact Rz;(focus (first|(simp;done)|omega|(simp;omega)))))
  refine gen_opsH (fun Y=>WP Y l c p p2 q3 q5 q7 a b∧IAt Y vn1 xs1∧IAt Y vn2 xs1∧PlZ Y vp1 n2 L2∧PlZ Y vp2 n2 L2) ⟨w.app _,gn1.app _,gn2.app _,gp1.app _,gp2⟩ ?_
  clear w y3 y5 y7 r3 r5 r7 gn1 gn2 gp1 gp2
  clear G
  try clear X
  rintro X ⟨w,gn1,gn2,gp1,gp2⟩
  have y3:=rd_lt w.r3
  have y5:=rd_lt w.r5
  have y7:=rd_lt w.r7
  have r3:=w.r3
  have r5:=w.r5
  have r7:=w.r7
  (with_reducible apply e_call);(simp;exact Rz);exact ks1 X p2 w.cv2 w.tr2
  rintro _ _ ⟨vs1,G,rfl,rfl,gs1⟩
  repeat (first|(with_reducible first|apply X1|apply X2|apply X8)|((with_reducible apply e_end);(simp;exact Rz))|((with_reducible apply O1);rfl;(simp (disch:=omega) [rd_old _ y3,r3,rd_old _ y5,r5,rd_old _ y7,r7];exact Rz);exact Rz;(focus (first|(simp;done)|omega|(simp;omega)))))
  refine gen_opsH (fun Y=>WP Y l c p p2 q3 q5 q7 a b∧IAt Y vn1 xs1∧IAt Y vn2 xs1∧PlZ Y vp1 n2 L2∧PlZ Y vp2 n2 L2∧IAt Y vs1 xs3) ⟨w.app _,gn1.app _,gn2.app _,gp1.app _,gp2.app _,gs1⟩ ?_
  clear w y3 y5 y7 r3 r5 r7 gn1 gn2 gp1 gp2 gs1
  clear G
  try clear X
  rintro X ⟨w,gn1,gn2,gp1,gp2,gs1⟩
  have y3:=rd_lt w.r3
  have y5:=rd_lt w.r5
  have y7:=rd_lt w.r7
  have r3:=w.r3
  have r5:=w.r5
  have r7:=w.r7
  (with_reducible apply e_call);(simp;exact Rz);exact ks2 X p w.cv w.tr
  rintro _ _ ⟨vs2,G,rfl,rfl,gs2⟩
  repeat (first|(with_reducible first|apply X1|apply X2|apply X8)|((with_reducible apply e_end);(simp;exact Rz))|((with_reducible apply O1);rfl;(simp (disch:=omega) [rd_old _ y3,r3,rd_old _ y5,r5,rd_old _ y7,r7];exact Rz);exact Rz;(focus (first|(simp;done)|omega|(simp;omega)))))
  refine gen_opsH (fun Y=>WP Y l c p p2 q3 q5 q7 a b∧IAt Y vn1 xs1∧IAt Y vn2 xs1∧PlZ Y vp1 n2 L2∧PlZ Y vp2 n2 L2∧IAt Y vs1 xs3∧IAt Y vs2 xs3) ⟨w.app _,gn1.app _,gn2.app _,gp1.app _,gp2.app _,gs1.app _,gs2⟩ ?_
  clear w y3 y5 y7 r3 r5 r7 gn1 gn2 gp1 gp2 gs1 gs2
  clear G
  try clear X
  rintro X ⟨w,gn1,gn2,gp1,gp2,gs1,gs2⟩
  have y3:=rd_lt w.r3
  have y5:=rd_lt w.r5
  have y7:=rd_lt w.r7
  have r3:=w.r3
  have r5:=w.r5
  have r7:=w.r7
  (with_reducible apply e_call);(simp;exact Rz);exact kd1 X p2 w.cv2 w.tr2
  rintro _ _ ⟨vd1,G,rfl,rfl,gd1⟩
  have hd10:=gd1.len
  have hds:=gd1.scal
  have hsp:=splice_new (d:=vd1) (z:=zc) (by rw [hd10];rfl)
  simp only [zc] at hsp
  repeat (first|(with_reducible first|apply X1|apply X2|apply X8)|((with_reducible apply e_end);(simp;exact Rz))|((first|((with_reducible apply O1);rfl)|((with_reducible apply O2);rfl));(simp (disch:=omega) [rd_old _ y3,r3,rd_old _ y5,r5,rd_old _ y7,r7,hd10,hds,hsp,-splice];exact Rz);exact Rz;(focus (first|(simp;done)|omega|(simp;omega)))))
  refine gen_ops (fun t Y=>∃ q22,t=[(72,.agg [.int .i64 a,.int .i64 b]),(71,.int .i64 at_),(70,.agg (c.av p)),(1,.int .i64 at_),(3,.ptr q3 0),(5,.ptr q5 0),(7,.ptr q7 0),(8,vn1),(9,.int .i64 e1),(10,vn2),(11,.int .i64 e1),(12,vp1),(13,.int .i64 e2),(14,vp2),(15,.int .i64 e2),(16,.int .i64 m3),(17,vs1),(18,.int .i64 e3),(19,.int .i64 m3),(20,vs2),(21,.int .i64 e3),(22,.ptr q22 0),(23,.int .i64 e4)]∧WP Y l c p p2 q3 q5 q7 a b∧rd Y q22 0 10=some vd1∧IAt Y vn1 xs1∧IAt Y vn2 xs1∧PlZ Y vp1 n2 L2∧PlZ Y vp2 n2 L2∧IAt Y vs1 xs3∧IAt Y vs2 xs3∧DrAt Y l o4 vd1) ⟨_,rfl,by rw [← List.append_assoc];exact (w.app _).app _,by simp [hd10];exact List.take_of_length_le (by omega),by have:=gn1.app (G++[.cells vd1 true]);exact this,by have:=gn2.app (G++[.cells vd1 true]);exact this,by have:=gp1.app (G++[.cells vd1 true]);exact this,by have:=gp2.app (G++[.cells vd1 true]);exact this,by have:=gs1.app (G++[.cells vd1 true]);exact this,by have:=gs2.app (G++[.cells vd1 true]);exact this,by have:=gd1.app [.cells vd1 true];rwa [List.append_assoc] at this⟩ ?_
  clear w y3 y5 y7 r3 r5 r7 hds hsp gn1 gn2 gp1 gp2 gs1 gs2 gd1
  clear G
  clear X
  rintro _ X ⟨q22,rfl,w,r22,gn1,gn2,gp1,gp2,gs1,gs2,gd1⟩
  have y3:=rd_lt w.r3
  have y5:=rd_lt w.r5
  have y7:=rd_lt w.r7
  have r3:=w.r3
  have r5:=w.r5
  have r7:=w.r7
  have y22:=rd_lt r22
  (with_reducible apply e_call);(simp;exact Rz);exact kd2 X p w.cv w.tr
  rintro _ _ ⟨vd2,G,rfl,rfl,gd2⟩
  have hd11:=gd2.len
  have hds:=gd2.scal
  have hsp:=splice_new (d:=vd2) (z:=zc) (by rw [hd11];rfl)
  simp only [zc] at hsp
  repeat (first|(with_reducible first|apply X1|apply X2|apply X8)|((with_reducible apply e_end);(simp;exact Rz))|((first|((with_reducible apply O1);rfl)|((with_reducible apply O2);rfl));(simp (disch:=omega) [rd_old _ y3,r3,rd_old _ y5,r5,rd_old _ y7,r7,hd10,hd11,hds,hsp,-splice,rd_old _ y22,r22];exact Rz);exact Rz;(focus (first|(simp;done)|omega|(simp;omega)))))
  refine gen_ops (fun t Y=>∃ q24,t=[(77,vn2),(76,vn1),(3,.ptr q3 0),(7,.ptr q7 0),(8,vn1),(9,.int .i64 e1),(10,vn2),(11,.int .i64 e1),(12,vp1),(13,.int .i64 e2),(14,vp2),(15,.int .i64 e2),(16,.int .i64 m3),(17,vs1),(18,.int .i64 e3),(19,.int .i64 m3),(20,vs2),(21,.int .i64 e3),(22,.ptr q22 0),(23,.int .i64 e4),(24,.ptr q24 0),(25,.int .i64 e4)]∧WP Y l c p p2 q3 q5 q7 a b∧rd Y q22 0 10=some vd1∧rd Y q24 0 10=some vd2∧IAt Y vn1 xs1∧IAt Y vn2 xs1∧PlZ Y vp1 n2 L2∧PlZ Y vp2 n2 L2∧IAt Y vs1 xs3∧IAt Y vs2 xs3∧DrAt Y l o4 vd1∧DrAt Y l o4 vd2) ⟨_,rfl,by rw [← List.append_assoc];exact (w.app _).app _,by rw [rd_old _ y22];exact r22,by simp [hd11];exact List.take_of_length_le (by omega),by have:=gn1.app (G++[.cells vd2 true]);exact this,by have:=gn2.app (G++[.cells vd2 true]);exact this,by have:=gp1.app (G++[.cells vd2 true]);exact this,by have:=gp2.app (G++[.cells vd2 true]);exact this,by have:=gs1.app (G++[.cells vd2 true]);exact this,by have:=gs2.app (G++[.cells vd2 true]);exact this,by have:=gd1.app (G++[.cells vd2 true]);exact this,by have:=gd2.app [.cells vd2 true];rwa [List.append_assoc] at this⟩ ?_
  clear w y3 y5 y7 y22 r22 r3 r5 r7 hds hsp gn1 gn2 gp1 gp2 gs1 gs2 gd1 gd2
  clear G
  clear X
  rintro _ X ⟨q24,rfl,w,r22,r24,gn1,gn2,gp1,gp2,gs1,gs2,gd1,gd2⟩
  have y3:=rd_lt w.r3
  have y5:=rd_lt w.r5
  have y7:=rd_lt w.r7
  have r3:=w.r3
  have r5:=w.r5
  have r7:=w.r7
  have y22:=rd_lt r22
  have y24:=rd_lt r24
  have cE:=c_r2SameD X l c p2 p w.cv2 w.cv w.tr2 w.tr (by omega) (by omega) (by omega)
  have cO:=c_r2SameO X l o4 vd1 vd2 gd1 gd2 (by omega)
  have s1:∀ k,vn1.sc (X.length+k)=true:=fun k=>RAt.sc gn1 (by omega)
  have s2:∀ k,vn2.sc (X.length+k)=true:=fun k=>RAt.sc gn2 (by omega)
  have s5:∀ k,vs1.sc (X.length+k)=true:=fun k=>RAt.sc gs1 (by omega)
  have s6:∀ k,vs2.sc (X.length+k)=true:=fun k=>RAt.sc gs2 (by omega)
  (with_reducible apply e_call);(simp;exact Rz);exact c_r2SameInts X vn1 vn2 xs1 gn1 gn2 hx1
  rintro _ hqh ⟨rfl,hqe⟩
  rw [hqe];clear hqe hqh
  repeat (first|((with_reducible apply O1);rfl;(simp (disch:=omega);exact Rz);exact Rz;(focus (first|(simp;done)|omega|(simp;omega))))|((with_reducible apply Z7);(simp (disch:=omega);exact Rz)))
  (with_reducible apply e_call);(simp;exact Rz);exact c_r2SameLZ X vp1 vp2 n2 L2 gp1 gp2 hn2 hL2
  rintro _ hqh ⟨rfl,hqe⟩
  rw [hqe];clear hqe hqh
  repeat (first|((with_reducible apply O1);rfl;(simp (disch:=omega);exact Rz);exact Rz;(focus (first|(simp;done)|omega|(simp;omega))))|((with_reducible apply Z7);(simp (disch:=omega);exact Rz)))
  (with_reducible apply e_call);(simp;exact Rz);exact c_r2SameInts X vs1 vs2 xs3 gs1 gs2 hx3
  rintro _ hqh ⟨rfl,hqe⟩
  rw [hqe];clear hqe hqh
  repeat (first|((with_reducible apply O1);rfl;(simp (disch:=omega) [r22,r24];exact Rz);exact Rz;(focus (first|(simp;done)|omega|(simp;omega))))|((with_reducible apply Z7);(simp (disch:=omega) [r22,r24];exact Rz)))
  (with_reducible apply e_call);(simp;exact Rz);exact cO
  rintro _ hqh ⟨rfl,hqe⟩
  rw [hqe];clear hqe hqh
  repeat (first|((with_reducible apply O1);rfl;(simp (disch:=omega) [r3,r7];exact Rz);exact Rz;(focus (first|(simp;done)|omega|(simp;omega))))|((with_reducible apply Z7);(simp (disch:=omega) [r3,r7];exact Rz)))
  (with_reducible apply e_call);(simp;exact Rz);exact cE
  rintro _ hqh ⟨rfl,hqe⟩
  rw [hqe];clear hqe hqh
  repeat (first|(with_reducible first|apply X3|apply X8)|((with_reducible apply e_end);(simp;exact Rz))|((with_reducible apply O1);rfl;(simp (disch:=omega);exact Rz);exact Rz;(focus (first|(simp;done)|omega|(simp;omega)))))
  exact q_stay (.inr rfl) (by simp;exact Rz) rfl
end Go.Proofs
