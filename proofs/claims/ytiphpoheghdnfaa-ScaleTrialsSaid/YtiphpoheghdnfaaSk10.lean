/- The law ScaleTrials: its contract. -/
import Derived.Test.YtiphpoheghdnfaaSB
import Derived.Test.YtiphpoheghdnfaaDD
namespace Go.Proofs
open Go.Abs
attribute [local simp] AOp.den AOpd.ev lk cellsOf rd_new rd_new0 rd_zero rd_succ wr_new wr_new0 wr_zero wr_succ splice fillA binA scal sliceCells List.length_append argsT AV.sc scL AObj.sc resV getAll AR.get AOp.slots opdSlots opdsSlots partSlots eqAt at_new0 at_new set_new0 set_new wrap64
set_option linter.unusedSimpArgs false
set_option linter.unusedVariables false
set_option maxHeartbeats 4000000 in
theorem c_lawTr (halive:∀ H,ACalls Try.prog F.law04_alive [] H (fun v h=>v=.bool true∧h=H)) (H:Heap) (s:Sc) (tid toff:Nat) (ex:Bool) (gain off weight mw mn:Int) (ht:rd H tid toff (s.ts.length * 2)=some (s.ts.flatMap Ti.av)) (hn:(s.ts.length:Int)≤9223372036854775807)
    (hg:0≤gain∧gain≤255) (hof:0≤off∧off≤255) (hwt:0≤weight∧weight≤4294967295) (hmw:-9223372036854775808≤mw∧mw≤9223372036854775807) (hmn:-9223372036854775808≤mn∧mn≤9223372036854775807) :
    ACalls Try.prog F.law04_ScaleTrials [.agg (s.av tid toff ex),.int .u8 gain,.int .u8 off,.int .u32 weight,.agg [.int .i64 mw,.int .i64 mn]] H (fun v _=>v=.bool true):=by
  have htl:=rd_lt ht
  have hav:s.av tid toff ex=[.int .i64 s.id,.int .i64 s.step,.int .i64 s.gLo,.int .i64 s.gHi,.int .i64 s.oLo,.int .i64 s.oHi,.slice tid toff s.ts.length 2 ex]:=rfl
  obtain⟨b0,h0⟩:=bof s.ok
  refine acalls_of ok_law04_ScaleTrials rfl fun hcl=>?_
  unfold ac_law04_ScaleTrials zo
  simp only [argsT,Nat.zero_add,Nat.reduceAdd]
  simp only [hav]
  repeat (first|(with_reducible first|apply X1|apply X2|apply X8)|((with_reducible apply e_end);(simp;exact Rz))|((with_reducible apply O1);rfl;(simp (disch:=omega);exact Rz);exact Rz;(focus (first|(simp;done)|omega|(simp;omega)))))
  (with_reducible apply e_call);(simp;exact Rz);exact halive _
  rintro _ _ ⟨rfl,rfl⟩
  by_cases h10:10<s.ts.length
  · have h102:(10:Int)<s.ts.length:=by omega
    repeat (first|(with_reducible first|apply X1|apply X2|apply X3|apply X5|apply X8|apply X9)|((with_reducible apply e_end);(simp;exact Rz))|((with_reducible apply O1);rfl;(simp (disch:=omega) [h10,h102];exact Rz);exact Rz;(focus (first|(simp;done)|omega|(simp;omega))))|((with_reducible apply Z9);(simp (disch:=omega) [h10,h102];exact Rz))|((with_reducible apply Z2);(simp (disch:=omega) [h10,h102];exact Rz))|((with_reducible apply W3);(simp (disch:=omega) [h10,h102];exact Rz)))
    exact q_stay (.inr rfl) (by simp;exact Rz) rfl
  have h102:¬ (10:Int)<s.ts.length:=by omega
  have kS:=fun X=>c_r4Scale (H++X) s tid toff ex (by rw [rd_old _ htl];exact ht) (by omega) h0
  simp only [Sc.av] at kS
  repeat (first|(with_reducible first|apply X1|apply X2|apply X5|apply X8)|((with_reducible apply e_end);(simp;exact Rz))|((with_reducible apply O1);rfl;(simp (disch:=omega) [h10,h102];exact Rz);exact Rz;(focus (first|(simp;done)|omega|(simp;omega))))|((with_reducible apply Z7);(simp (disch:=omega) [h10,h102];exact Rz))|((with_reducible apply W3);(simp (disch:=omega) [h10,h102];exact Rz)))
  (with_reducible apply e_call);(simp;exact Rz);exact kS _
  rintro _ _ ⟨rfl,rfl⟩
  cases b0 with
  | false =>
    repeat (first|(with_reducible first|apply X1|apply X2|apply X3|apply X8|apply X9)|((with_reducible apply e_end);(simp;exact Rz))|((with_reducible apply O1);rfl;(simp (disch:=omega);exact Rz);exact Rz;(focus (first|(simp;done)|omega|(simp;omega))))|((with_reducible first|apply Z7|apply Z9);(simp (disch:=omega);exact Rz)))
    exact q_stay (.inr rfl) (by simp;exact Rz) rfl
  | true =>
  have hs:=h0.1 rfl
  have hb:=hs.b
  simp only [Sc.built] at hb
  obtain⟨x,hx⟩:∃ x,x=s.gLo+gain.tmod (s.gHi-s.gLo+1):=⟨_,rfl⟩
  obtain⟨y,hy⟩:∃ y,y=s.oLo+off.tmod (s.oHi-s.oLo+1):=⟨_,rfl⟩
  obtain⟨w,hw⟩:∃ w,w=weight.tmod 1000001:=⟨_,rfl⟩
  have gb:0≤gain.tmod (s.gHi-s.gLo+1)∧gain.tmod (s.gHi-s.gLo+1)<s.gHi-s.gLo+1:=⟨Int.tmod_nonneg _ hg.1,Int.tmod_lt_of_pos _ (by omega)⟩
  have ob:0≤off.tmod (s.oHi-s.oLo+1)∧off.tmod (s.oHi-s.oLo+1)<s.oHi-s.oLo+1:=⟨Int.tmod_nonneg _ hof.1,Int.tmod_lt_of_pos _ (by omega)⟩
  have wb:0≤weight.tmod 1000001∧weight.tmod 1000001<1000001:=⟨Int.tmod_nonneg _ hwt.1,Int.tmod_lt_of_pos _ (by omega)⟩
  have z1:¬ s.gHi-s.gLo+1=0:=by omega
  have z2:¬ s.oHi-s.oLo+1=0:=by omega
  have kT:=fun X=>c_Tunes (H++X) s tid toff ex (by rw [rd_old _ htl];exact ht) (by omega)
  simp only [Sc.av] at kT
  repeat (first|(with_reducible first|apply X1|apply X2|apply X5|apply X8|apply Y9)|((with_reducible first|apply e_end|apply d_end);(simp;exact Rz))|((first|((with_reducible apply O1);rfl)|((with_reducible apply P1);rfl)|((with_reducible apply P2);rfl));(simp (disch:=omega) [z1,z2,← hx,← hy,← hw];exact Rz);exact Rz;(focus (first|(simp;done)|omega|(simp;omega))))|((with_reducible apply Z7);(simp (disch:=omega) [z1,z2,← hx,← hy,← hw];exact Rz))|((with_reducible apply W3);(simp (disch:=omega) [z1,z2,← hx,← hy,← hw];exact Rz)))
  have hwb:0≤w∧w≤1000000:=by omega
  have hxb:s.gLo≤x∧x≤s.gHi:=by omega
  have hyb:s.oLo≤y∧y≤s.oHi:=by omega
  have kR:=fun X=>c_Reads (H++X) s tid toff ex w (by rw [rd_old _ htl];exact ht) (by omega)
  simp only [Sc.av] at kR
  (with_reducible apply e_call);(simp;exact Rz);exact kT _
  rintro _ _ ⟨lv,G,rfl,rfl,hA⟩
  have eS:tunS s=TG s s.gs:=by simp only [tunS,if_pos hs]
  have eE:tunE s=if TG s s.gs=[] then 6 else 0:=by simp only [tunE,if_pos hs]
  have eR:rdE s w=if TG s s.gs=[] then 6 else 0:=by simp only [rdE,if_pos hs,if_pos hwb]
  obtain⟨e,he⟩:∃ e:Int,e=if TG s s.gs=[] then 6 else 0:=⟨_,rfl⟩
  rw [← he] at eE eR
  rw [eS] at hA
  rw [eE]
  obtain⟨bt,hbt⟩:=bof (s.tru x y)
  have kU:=fun X=>c_r4True (H++X) s tid toff ex (by rw [rd_old _ htl];exact ht) hs x y (by omega) (by omega) hbt
  have kW:=fun X=>c_TwinScale (H++X) s tid toff ex (by rw [rd_old _ htl];exact ht) (by omega)
  have kD:=fun X=>c_lawReads (H++X) s tid toff ex (by simp;omega) hb.2.1 x y w (by omega) (by omega) hwb
  simp only [Sc.av] at kU kW kD
  by_cases hL:TG s s.gs=[]
  · rw [if_pos hL] at he
    subst he
    rw [hL] at hA
    obtain⟨_,⟨rfl,_⟩|⟨_,h,_⟩⟩:=hA
    rotate_left
    · simp at h
    have hbf:bt=false:=by
      cases bt
      · rfl
      · obtain⟨i,hi,_⟩:=(tru_iff hs x y).1 (hbt.1 rfl)
        rw [hL] at hi;simp at hi
    subst hbf
    repeat (first|(with_reducible first|apply X1|apply X2|apply X8)|((with_reducible apply e_end);(simp;exact Rz))|((with_reducible apply O1);rfl;(simp (disch:=omega);exact Rz);exact Rz;(focus (first|(simp;done)|omega|(simp;omega)))))
    (with_reducible apply e_call);(simp;exact Rz);exact kR _
    rintro _ _ ⟨rfl,rfl⟩
    rw [eR]
    repeat (first|(with_reducible first|apply X1|apply X2|apply X5|apply X6|apply X8)|((with_reducible apply e_end);(simp;exact Rz))|((first|((with_reducible apply O1);rfl)|((with_reducible apply O2);rfl));(simp (disch:=omega);exact Rz);exact Rz;(focus (first|(simp;done)|omega|(simp;omega))))|((with_reducible apply Z7);(simp (disch:=omega);exact Rz))|((with_reducible apply W3);(simp (disch:=omega);exact Rz)))
    refine e_loop (ι:=Unit) (fun _=>[(5,.ptr H.length 0),(9,.ptr (H.length+1) 0),(11,.bool true),(12,.int .i64 x),(13,.int .i64 y),(14,.int .i64 w),(15,.nilslice),(16,.int .i64 6),(17,.ptr (H.length+(G.length+1+1)) 0),(19,.bool false),(20,.bool false),(21,.bool false),(112,.nilslice),(113,.int .i64 0),(114,.int .i64 0)]) (fun _=>H++.cells [.int .i64 s.id,.int .i64 s.step,.int .i64 s.gLo,.int .i64 s.gHi,.int .i64 s.oLo,.int .i64 s.oHi,.slice tid toff s.ts.length 2 ex] true :: .cells [.int .i64 mw,.int .i64 mn] true :: (G++[.cells [.int .i64 (rdLo s w),.int .i64 (rdHi s w)] true])) (fun _=>0) () ?_ ?_
    · exact .inl rfl
    · rintro⟨⟩
      repeat (first|(with_reducible first|apply X1|apply X2|apply X4|apply X8|apply Y1|apply Y4|apply Y6)|((with_reducible apply e_end);(simp;exact Rz))|((with_reducible apply O1);rfl;(simp (disch:=omega);exact Rz);exact Rz;(focus (first|(simp;done)|omega|(simp;omega))))|((with_reducible apply W3);(simp (disch:=omega);exact Rz)))
      (with_reducible apply e_call);(simp;exact Rz);exact kU _
      rintro _ _ ⟨rfl,rfl⟩
      repeat (first|(with_reducible first|apply X1|apply X2|apply X5|apply X8)|((with_reducible apply e_end);(simp;exact Rz))|((with_reducible apply O1);rfl;(simp (disch:=omega);exact Rz);exact Rz;(focus (first|(simp;done)|omega|(simp;omega))))|((with_reducible apply Z7);(simp (disch:=omega);exact Rz))|((with_reducible apply Z1);(simp (disch:=omega);exact Rz))|((with_reducible first|apply W1|apply W3);(simp (disch:=omega);exact Rz)))
      (with_reducible apply e_call);(simp;exact Rz);exact kD _
      rintro _ _ ⟨rfl,rfl⟩
      repeat (first|(with_reducible first|apply X1|apply X2|apply X5|apply X8)|((with_reducible apply e_end);(simp;exact Rz))|((with_reducible apply O1);rfl;(simp (disch:=omega);exact Rz);exact Rz;(focus (first|(simp;done)|omega|(simp;omega))))|((with_reducible apply Z1);(simp (disch:=omega);exact Rz))|((with_reducible first|apply W1|apply W3);(simp (disch:=omega);exact Rz)))
      refine gen_ops (fun t X=>∃ q5 q9 lv,t=[(285,.agg [.int .i64 s.id,.int .i64 s.step,.int .i64 s.gLo,.int .i64 s.gHi,.int .i64 s.oLo,.int .i64 s.oHi,.slice tid toff s.ts.length 2 ex]),(5,.ptr q5 0),(9,.ptr q9 0),(11,.bool true),(15,lv),(284,.bool false)]∧rd X q9 0 2=some [.int .i64 mw,.int .i64 mn]∧rd X tid toff (s.ts.length * 2)=some (s.ts.flatMap Ti.av)∧AAt X 3 lv (tunL s (TG s s.gs)) (TG s s.gs).length) ?_ ?_
      · refine⟨_,_,_,rfl,by simp,by rw [rd_old _ htl];exact ht,?_⟩
        rw [hL];exact AAt.nil _ _
      clear kS kT kR kU kW kD halive
      rintro _ X ⟨q5,q9,lv,rfl,r9,htX,hA⟩
      have kW:=c_TwinScale X s tid toff ex htX (by omega)
      have l9:=rd_lt r9
      simp only [Sc.av] at kW
      (with_reducible apply e_call);(simp;exact Rz);exact kW
      rintro _ hqh ⟨rfl,hqe⟩
      rw [hqe];clear hqe hqh
      have pl:=ti_plain s.ts
      have tl:=ti_len s.ts
      obtain⟨s2,hs2⟩:∃ s2,s2=s.more ⟨mw,mn⟩:=⟨_,rfl⟩
      have e2:s2.ts.flatMap Ti.av=s.ts.flatMap Ti.av++[.int .i64 mw,.int .i64 mn]:=by rw [hs2];simp [Sc.more,Ti.av]
      have n2:s2.ts.length=s.ts.length+1:=by rw [hs2];exact more_len s _
      have av2:s2.av (X.length+3) 0 false=[.int .i64 s.id,.int .i64 s.step,.int .i64 s.gLo,.int .i64 s.gHi,.int .i64 s.oLo,.int .i64 s.oHi,.slice (X.length+3) 0 (s.ts.length+1) 2 false]:=by
        simp only [Sc.av,n2];rw [hs2];rfl
      obtain⟨b2,hb2⟩:=bof s2.ok
      have r2:∀ a b c:AObj,rd (X++[a,b,c,.cells (s.ts.flatMap Ti.av++[.int .i64 mw,.int .i64 mn]) true]) (X.length+3) 0 (s2.ts.length * 2)=some (s2.ts.flatMap Ti.av):=fun a b c=>by
        rw [e2]
        exact rd_full (b:=true) (by simp) (by rw [List.length_append,tl,n2];simp;omega)
      have kS2:=fun a b c=>c_r4Scale _ s2 (X.length+3) 0 false (r2 a b c) (by omega) hb2
      have kT2:=fun a b c=>c_Tunes _ s2 (X.length+3) 0 false (r2 a b c) (by omega)
      rw [av2] at kS2 kT2
      repeat (first|(with_reducible first|apply X1|apply X2|apply X8)|((with_reducible apply e_end);(simp;exact Rz))|((first|((with_reducible apply O1);rfl)|((with_reducible apply O2);rfl));(simp (disch:=omega) [pl.scal,tl,rd_old _ l9,r9,take_all tl];exact Rz);exact Rz;(focus (first|(simp;done)|omega|(simp;omega)))))
      (with_reducible apply e_call);(simp;exact Rz);exact (kS2 _ _ _)
      rintro _ hqh ⟨rfl,hqe⟩
      rw [hqe];clear hqe hqh
      cases b2 with
      | false =>
        repeat (first|(with_reducible first|apply X1|apply X2|apply X3|apply X8|apply X9)|((with_reducible apply e_end);(simp;exact Rz))|((with_reducible apply O1);rfl;(simp (disch:=omega);exact Rz);exact Rz;(focus (first|(simp;done)|omega|(simp;omega))))|((with_reducible apply Z9);(simp (disch:=omega);exact Rz)))
        exact q_stay (.inr rfl) (by simp;exact Rz) rfl
      | true =>
        have hok2:=hb2.1 rfl
        repeat (first|(with_reducible first|apply X1|apply X2|apply X5|apply X8)|((with_reducible apply e_end);(simp;exact Rz))|((with_reducible apply O1);rfl;(simp (disch:=omega);exact Rz);exact Rz;(focus (first|(simp;done)|omega|(simp;omega))))|((with_reducible apply W3);(simp (disch:=omega);exact Rz)))
        (with_reducible apply e_call);(simp;exact Rz);exact kT2 _ _ _
        rintro _ _ ⟨mv,G2,rfl,rfl,hB⟩
        have eS2:tunS s2=TG s2 s2.gs:=by simp only [tunS,if_pos hok2]
        have eE2:tunE s2=if TG s2 s2.gs=[] then 6 else 0:=by simp only [tunE,if_pos hok2]
        obtain⟨er,her⟩:∃ e:Int,e=if TG s2 s2.gs=[] then 6 else 0:=⟨_,rfl⟩
        rw [← her] at eE2
        rw [eS2] at hB
        rw [eE2]
        have smv:=hB.l.sc (Nat.le_refl _)
        simp only [List.append_assoc,List.cons_append,List.nil_append] at hB smv ⊢
        repeat (first|(with_reducible first|apply X1|apply X2|apply X8)|((with_reducible apply e_end);(simp;exact Rz))|((with_reducible apply O1);rfl;(simp (disch:=omega);exact Rz);exact Rz;(focus (first|(simp;done)|omega|(simp;omega)))))
        refine gen_ops (fun t Y=>t=[(302,mv),(11,.bool true),(15,lv),(29,mv),(30,.int .i64 er)]∧AAt Y 3 lv (tunL s (TG s s.gs)) (TG s s.gs).length∧AAt Y 3 mv (tunL s2 (TG s2 s2.gs)) (TG s2 s2.gs).length) ⟨rfl,hA.app _,hB⟩ ?_
        clear kS2 kT2 r2 kW hA hB smv r9 l9 htX pl tl av2
        clear G2 X
        rintro _ Y ⟨rfl,hA,hB⟩
        have slv:∀ m,lv.sc (Y.length+m)=true:=fun m=>hA.l.sc (by omega)
        have smv:∀ m,mv.sc (Y.length+m)=true:=fun m=>hB.l.sc (by omega)
        have slv0:=slv 0
        have smv0:=smv 0
        rw [Nat.add_zero] at slv0 smv0
        have gl:=TG_len s s.gs
        have gl2:=TG_len s2 s2.gs
        have gb1:s.gs≤21:=by simp only [Sc.gs];omega
        have hb2':=hok2.b
        simp only [Sc.built] at hb2'
        have gb2:s2.gs≤21:=by simp only [Sc.gs];omega
        (with_reducible apply e_op);rfl;exact hB.l.r.len Y (by simp);exact Rz;trivial
        repeat (first|(with_reducible first|apply X6|apply X8)|((with_reducible apply e_end);(simp;exact Rz))|((with_reducible apply O1);rfl;(simp (disch:=omega);exact Rz);exact Rz;(focus (first|(simp;done)|omega|(simp;omega)))))
        refine e_loop (ι:={ x:Nat × Heap // x.1≤(TG s2 s2.gs).length }) (fun x=>[(11,.bool true),(15,lv),(30,.int .i64 er),(302,mv),(303,.int .i64 ((TG s2 s2.gs).length:Nat)),(304,.int .i64 x.1.1)]) (fun x=>Y++x.1.2) (fun x=>(TG s2 s2.gs).length-x.1.1) ⟨(0,[]),by simp⟩ ?_ ?_
        · exact .inl (by simp)
        · rintro⟨⟨i,G⟩,hi⟩
          dsimp only at hi ⊢
          by_cases hlt:i<(TG s2 s2.gs).length
          · have hlt2:(i:Int)<((TG s2 s2.gs).length:Nat):=by omega
            obtain⟨id2,rfl,hid2,hrow2⟩:=hB.tun hlt
            have hr2:=hrow2 i hlt
            have obd2:=o_bd hok2 (g:=tgA s2 i) (by have:=tgA_bd hok2 hlt;omega) s2.ts.length (Nat.le_refl _)
            obtain⟨jj,hjj,hje⟩:∃ j,j<(TG s s.gs).length∧(tgA s2 i=tgA s j∧oLoF s (tgA s j) s.ts.length≤oLoF s2 (tgA s2 i) s2.ts.length∧oHiF s2 (tgA s2 i) s2.ts.length≤oHiF s (tgA s j) s.ts.length):=by
              rw [hs2] at hlt ⊢
              obtain⟨j,hj,he⟩:=more_at hlt
              have:=more_bd s ⟨mw,mn⟩ (tgA s j)
              exact⟨j,hj,he.symm,by rw [← he];exact this⟩
            generalize tgA s2 i=a2 at *
            generalize oLoF s2 a2 s2.ts.length=lo2 at *
            generalize oHiF s2 a2 s2.ts.length=hi2 at *
            repeat (first|(with_reducible first|apply X1|apply X2|apply X5|apply X6|apply X8)|((with_reducible apply e_end);(simp;exact Rz))|((first|((with_reducible apply O1);rfl)|((with_reducible apply O2);rfl));(simp (disch:=omega) [hlt,hlt2,rd_old _ hid2,hr2];exact Rz);exact Rz;(focus (first|(simp;done)|omega|(simp;omega))))|((with_reducible apply Z9);(simp (disch:=omega) [hlt,hlt2,rd_old _ hid2,hr2];exact Rz)))
            (with_reducible apply e_op);rfl;exact hA.l.r.len _ (by simp);exact Rz;trivial
            repeat (first|(with_reducible first|apply X6|apply X8)|((with_reducible apply e_end);(simp;exact Rz))|((with_reducible apply O1);rfl;(simp (disch:=omega);exact Rz);exact Rz;(focus (first|(simp;done)|omega|(simp;omega)))))
            refine e_loop (ι:={ x:Nat × Bool × Heap // x.1≤(TG s s.gs).length∧(x.2.1=true↔∃ j,j<x.1∧(a2=tgA s j∧oLoF s (tgA s j) s.ts.length≤lo2∧hi2≤oHiF s (tgA s j) s.ts.length)) })
              (fun x=>[(11,.bool true),(15,lv),(30,.int .i64 er),(32,.ptr (Y.length+G.length) 0),(33,.bool x.1.2.1),(302,.slice id2 0 (TG s2 s2.gs).length 3 false),(303,.int .i64 ((TG s2 s2.gs).length:Nat)),(304,.int .i64 i),(308,lv),(309,.int .i64 ((TG s s.gs).length:Nat)),(310,.int .i64 x.1.1)])
              (fun x=>Y++(G++.cells [.int .i64 a2,.int .i64 lo2,.int .i64 hi2] true :: x.1.2.2)) (fun x=>(TG s s.gs).length-x.1.1) ⟨(0,false,[]),by simp⟩ ?_ ?_
            · exact .inl (by simp)
            · rintro⟨⟨j,fl,G3⟩,hj,hfl⟩
              dsimp only at hj hfl ⊢
              by_cases hjl:j<(TG s s.gs).length
              · have hjl2:(j:Int)<((TG s s.gs).length:Nat):=by omega
                obtain⟨id1,rfl,hid1,hrow1⟩:=hA.tun hjl
                have hr1:=hrow1 j hjl
                have obd1:=o_bd hs (g:=tgA s j) (by have:=tgA_bd hs hjl;omega) s.ts.length (Nat.le_refl _)
                have step:∀ c:Bool,(c=true↔fl=true∨(a2=tgA s j∧oLoF s (tgA s j) s.ts.length≤lo2∧hi2≤oHiF s (tgA s j) s.ts.length))→(c=true↔∃ k,k<j+1∧(a2=tgA s k∧oLoF s (tgA s k) s.ts.length≤lo2∧hi2≤oHiF s (tgA s k) s.ts.length)):=fun c hc=>by
                  rw [hc,hfl]
                  constructor
                  · rintro (⟨k,h1,h2⟩|h)
                    · exact⟨k,by omega,h2⟩
                    · exact⟨j,by omega,h⟩
                  · rintro⟨k,h1,h2⟩
                    rcases Nat.lt_or_ge k j with h|h
                    · exact .inl ⟨k,h,h2⟩
                    · obtain rfl:k=j:=by omega
                      exact .inr h2
                clear hfl
                generalize tgA s j=a1 at *
                generalize oLoF s a1 s.ts.length=lo1 at *
                generalize oHiF s a1 s.ts.length=hi1 at *
                cases fl with
                | true =>
                  repeat (first|(with_reducible first|apply X1|apply X2|apply X5|apply X6|apply X8|apply Y2)|((with_reducible apply e_end);(simp;exact Rz))|((first|((with_reducible apply O1);rfl)|((with_reducible apply O2);rfl));(simp (disch:=omega) [hjl,hjl2,rd_old _ hid1,hr1];exact Rz);exact Rz;(focus (first|(simp;done)|omega|(simp;omega))))|((with_reducible apply Z9);(simp (disch:=omega) [hjl,hjl2,rd_old _ hid1,hr1];exact Rz))|((with_reducible apply Z2);(simp (disch:=omega) [hjl,hjl2,rd_old _ hid1,hr1];exact Rz))|((with_reducible apply W1);(simp (disch:=omega) [hjl,hjl2,rd_old _ hid1,hr1];exact Rz)))
                  exact q_again ⟨(j+1,true,G3++[.cells [.int .i64 a1,.int .i64 lo1,.int .i64 hi1] true]),hjl,step true (by simp)⟩ (by dsimp only;omega) (.inl (by simp))
                | false =>
                  by_cases p1:a2=a1
                  · by_cases p2:lo1≤lo2
                    · by_cases p3:hi2≤hi1
                      · repeat (first|(with_reducible first|apply X1|apply X2|apply X5|apply X6|apply X8|apply Y2)|((with_reducible apply e_end);(simp;exact Rz))|((first|((with_reducible apply O1);rfl)|((with_reducible apply O2);rfl));(simp (disch:=omega) [hjl,hjl2,rd_old _ hid1,hr1,p1,p2,p3];exact Rz);exact Rz;(focus (first|(simp;done)|omega|(simp;omega))))|((with_reducible first|apply Z7|apply Z9);(simp (disch:=omega) [hjl,hjl2,rd_old _ hid1,hr1,p1,p2,p3];exact Rz)))
                        exact q_again ⟨(j+1,true,G3++[.cells [.int .i64 a1,.int .i64 lo1,.int .i64 hi1] true]),hjl,step true (by simp [p1,p2,p3])⟩ (by dsimp only;omega) (.inl (by simp [p1]))
                      · repeat (first|(with_reducible first|apply X1|apply X2|apply X5|apply X6|apply X8|apply Y2)|((with_reducible apply e_end);(simp;exact Rz))|((first|((with_reducible apply O1);rfl)|((with_reducible apply O2);rfl));(simp (disch:=omega) [hjl,hjl2,rd_old _ hid1,hr1,p1,p2,p3];exact Rz);exact Rz;(focus (first|(simp;done)|omega|(simp;omega))))|((with_reducible first|apply Z7|apply Z9);(simp (disch:=omega) [hjl,hjl2,rd_old _ hid1,hr1,p1,p2,p3];exact Rz)))
                        exact q_again ⟨(j+1,false,G3++[.cells [.int .i64 a1,.int .i64 lo1,.int .i64 hi1] true]),hjl,step false (by simp [p3])⟩ (by dsimp only;omega) (.inl (by simp [p1]))
                    · repeat (first|(with_reducible first|apply X1|apply X2|apply X5|apply X6|apply X8|apply Y2)|((with_reducible apply e_end);(simp;exact Rz))|((first|((with_reducible apply O1);rfl)|((with_reducible apply O2);rfl));(simp (disch:=omega) [hjl,hjl2,rd_old _ hid1,hr1,p1,p2];exact Rz);exact Rz;(focus (first|(simp;done)|omega|(simp;omega))))|((with_reducible first|apply Z7|apply Z9);(simp (disch:=omega) [hjl,hjl2,rd_old _ hid1,hr1,p1,p2];exact Rz))|((with_reducible apply Z1);(simp (disch:=omega) [hjl,hjl2,rd_old _ hid1,hr1,p1,p2];exact Rz)))
                      exact q_again ⟨(j+1,false,G3++[.cells [.int .i64 a1,.int .i64 lo1,.int .i64 hi1] true]),hjl,step false (by simp [p2])⟩ (by dsimp only;omega) (.inl (by simp [p1]))
                  · repeat (first|(with_reducible first|apply X1|apply X2|apply X5|apply X6|apply X8|apply Y2)|((with_reducible apply e_end);(simp;exact Rz))|((first|((with_reducible apply O1);rfl)|((with_reducible apply O2);rfl));(simp (disch:=omega) [hjl,hjl2,rd_old _ hid1,hr1,p1];exact Rz);exact Rz;(focus (first|(simp;done)|omega|(simp;omega))))|((with_reducible first|apply Z7|apply Z9);(simp (disch:=omega) [hjl,hjl2,rd_old _ hid1,hr1,p1];exact Rz))|((with_reducible apply Z1);(simp (disch:=omega) [hjl,hjl2,rd_old _ hid1,hr1,p1];exact Rz)))
                    exact q_again ⟨(j+1,false,G3++[.cells [.int .i64 a1,.int .i64 lo1,.int .i64 hi1] true]),hjl,step false (by simp [p1])⟩ (by dsimp only;omega) (.inl (by simp))
              · have hjl2:¬ (j:Int)<((TG s s.gs).length:Nat):=by omega
                obtain rfl:fl=true:=hfl.2 ⟨jj,by omega,hje⟩
                repeat (first|(with_reducible first|apply X1|apply X2|apply X4|apply X5|apply X8|apply Y1|apply Y2|apply Y4|apply Y6)|((with_reducible apply e_end);(simp;exact Rz))|((with_reducible apply O1);rfl;(simp (disch:=omega) [hjl,hjl2];exact Rz);exact Rz;(focus (first|(simp;done)|omega|(simp;omega))))|((with_reducible apply W3);(simp (disch:=omega) [hjl,hjl2];exact Rz)))
                exact q_again ⟨(i+1,G++.cells [.int .i64 a2,.int .i64 lo2,.int .i64 hi2] true :: G3),hlt⟩ (by dsimp only;omega) (.inl (by simp))
          · have hlt2:¬ (i:Int)<((TG s2 s2.gs).length:Nat):=by omega
            rcases (show er=0∨er=6 by rw [her];split <;> simp) with rfl|rfl
            · repeat (first|(with_reducible first|apply X1|apply X2|apply X3|apply X4|apply X8|apply Y1|apply Y4|apply Y6)|((with_reducible apply e_end);(simp;exact Rz))|((with_reducible apply O1);rfl;(simp (disch:=omega) [hlt,hlt2];exact Rz);exact Rz;(focus (first|(simp;done)|omega|(simp;omega))))|((with_reducible apply Z7);(simp (disch:=omega) [hlt,hlt2];exact Rz))|((with_reducible apply Z2);(simp (disch:=omega) [hlt,hlt2];exact Rz))|((with_reducible apply W3);(simp (disch:=omega) [hlt,hlt2];exact Rz)))
              exact q_stay (.inr rfl) (by simp;exact Rz) rfl
            · repeat (first|(with_reducible first|apply X1|apply X2|apply X3|apply X4|apply X8|apply Y1|apply Y4|apply Y6)|((with_reducible apply e_end);(simp;exact Rz))|((with_reducible apply O1);rfl;(simp (disch:=omega) [hlt,hlt2];exact Rz);exact Rz;(focus (first|(simp;done)|omega|(simp;omega))))|((with_reducible apply Z7);(simp (disch:=omega) [hlt,hlt2];exact Rz))|((with_reducible apply W3);(simp (disch:=omega) [hlt,hlt2];exact Rz)))
              exact q_stay (.inr rfl) (by simp;exact Rz) rfl
  · rw [if_neg hL] at he
    subst he
    have n0:0<(TG s s.gs).length:=by
      cases h:TG s s.gs with
      | nil=>exact absurd h hL
      | cons a l=>simp
    have n0i:(0:Int)<((TG s s.gs).length:Nat):=by omega
    have gl:=TG_len s s.gs
    have gb1:s.gs≤21:=by simp only [Sc.gs];omega
    have smv:=hA.l.sc (Nat.le_refl _)
    obtain⟨id1,rfl,hid0,_⟩:=hA.tun n0
    simp only [List.append_assoc,List.cons_append,List.nil_append] at hA
    repeat (first|(with_reducible first|apply X1|apply X2|apply X8)|((with_reducible apply e_end);(simp;exact Rz))|((with_reducible apply O1);rfl;(simp (disch:=omega);exact Rz);exact Rz;(focus (first|(simp;done)|omega|(simp;omega)))))
    refine gen_ops (fun t X=>∃ q5 q9,t=[(89,.int .i64 w),(88,.agg [.int .i64 s.id,.int .i64 s.step,.int .i64 s.gLo,.int .i64 s.gHi,.int .i64 s.oLo,.int .i64 s.oHi,.slice tid toff s.ts.length 2 ex]),(5,.ptr q5 0),(9,.ptr q9 0),(11,.bool true),(12,.int .i64 x),(13,.int .i64 y),(14,.int .i64 w),(15,.slice id1 0 (TG s s.gs).length 3 false),(16,.int .i64 0)]∧rd X q5 0 7=some [.int .i64 s.id,.int .i64 s.step,.int .i64 s.gLo,.int .i64 s.gHi,.int .i64 s.oLo,.int .i64 s.oHi,.slice tid toff s.ts.length 2 ex]∧rd X q9 0 2=some [.int .i64 mw,.int .i64 mn]∧rd X tid toff (s.ts.length * 2)=some (s.ts.flatMap Ti.av)∧AAt X 3 (.slice id1 0 (TG s s.gs).length 3 false) (tunL s (TG s s.gs)) (TG s s.gs).length) ⟨_,_,rfl,by simp,by simp,by rw [rd_old _ htl];exact ht,hA⟩ ?_
    clear kS kT kR kU kW kD halive hA smv hid0
    rintro _ X ⟨q5,q9,rfl,r5,r9,htX,hA⟩
    have l5:=rd_lt r5
    have l9:=rd_lt r9
    have ltX:=rd_lt htX
    have r52:rd X q5 2 1=some [.int .i64 s.gLo]:=by have:=rd_sub' r5 2 1 (by omega);simpa using this
    have r53:rd X q5 3 1=some [.int .i64 s.gHi]:=by have:=rd_sub' r5 3 1 (by omega);simpa using this
    have r54:rd X q5 4 1=some [.int .i64 s.oLo]:=by have:=rd_sub' r5 4 1 (by omega);simpa using this
    have r55:rd X q5 5 1=some [.int .i64 s.oHi]:=by have:=rd_sub' r5 5 1 (by omega);simpa using this
    have r51:rd X q5 1 1=some [.int .i64 s.step]:=by have:=rd_sub' r5 1 1 (by omega);simpa using this
    obtain⟨id1',e1,hid1,hrow⟩:=hA.tun n0
    obtain rfl:id1=id1':=by injection e1
    have kR:=c_Reads X s tid toff ex w htX (by omega)
    have kU:=fun G=>c_r4True (X++G) s tid toff ex (by rw [rd_old _ ltX];exact htX) hs x y (by omega) (by omega) hbt
    have kD:=fun G=>c_lawReads (X++G) s tid toff ex (by simp;omega) hb.2.1 x y w (by omega) (by omega) hwb
    simp only [Sc.av] at kR kU kD
    have rin:=fun i h=>rd_in hs (w:=w) eR (i:=i) h
    obtain⟨rl,hrl⟩:∃ r,r=rdLo s w:=⟨_,rfl⟩
    obtain⟨rh,hrh⟩:∃ r,r=rdHi s w:=⟨_,rfl⟩
    (with_reducible apply e_call);(simp;exact Rz);exact kR
    rintro _ hqh ⟨rfl,hqe⟩
    rw [hqe];clear hqe hqh
    rw [eR,← hrl,← hrh]
    repeat (first|(with_reducible first|apply X1|apply X2|apply X5|apply X6|apply X8)|((with_reducible apply e_end);(simp;exact Rz))|((first|((with_reducible apply O1);rfl)|((with_reducible apply O2);rfl));(simp (disch:=omega) [n0,n0i];exact Rz);exact Rz;(focus (first|(simp;done)|omega|(simp;omega))))|((with_reducible apply Z7);(simp (disch:=omega) [n0,n0i];exact Rz))|((with_reducible apply Z1);(simp (disch:=omega) [n0,n0i];exact Rz))|((with_reducible apply W3);(simp (disch:=omega) [n0,n0i];exact Rz)))
    refine e_loop (ι:={ z:Nat × Bool × Bool × Bool × Heap // z.1≤(TG s s.gs).length∧(z.2.1=true↔∃ j,j<z.1∧(tgA s j=x∧oLoF s (tgA s j) s.ts.length≤y∧y≤oHiF s (tgA s j) s.ts.length))∧(z.2.2.1=true↔∃ j,j<z.1∧(rdFL s w j=rl∨rdFH s w j=rl))∧(z.2.2.2.1=true↔∃ j,j<z.1∧(rdFL s w j=rh∨rdFH s w j=rh)) })
      (fun z=>[(5,.ptr q5 0),(9,.ptr q9 0),(11,.bool true),(12,.int .i64 x),(13,.int .i64 y),(14,.int .i64 w),(15,.slice id1 0 (TG s s.gs).length 3 false),(16,.int .i64 0),(17,.ptr X.length 0),(19,.bool z.1.2.1),(20,.bool z.1.2.2.1),(21,.bool z.1.2.2.2.1),(112,.slice id1 0 (TG s s.gs).length 3 false),(113,.int .i64 ((TG s s.gs).length:Nat)),(114,.int .i64 z.1.1)])
      (fun z=>X++(.cells [.int .i64 rl,.int .i64 rh] true :: z.1.2.2.2.2)) (fun z=>(TG s s.gs).length-z.1.1) ⟨(0,false,false,false,[]),by simp⟩ ?_ ?_
    · exact .inl (by simp)
    · rintro⟨⟨i,to,fl,fh,G⟩,hi,h1,h2,h3⟩
      dsimp only at hi h1 h2 h3 ⊢
      by_cases hlt:i<(TG s s.gs).length
      · have hlt2:(i:Int)<((TG s s.gs).length:Nat):=by omega
        have hr:=hrow i hlt
        have gbd:=tgA_bd hs hlt
        have oin:=o_in s (tgA s i) s.ts.length
        have tun:=(tgN_ok hlt).2
        simp only [tunB,decide_eq_true_eq] at tun
        have rbi:=rin i hlt
        rw [← hrl,← hrh] at rbi
        have c1:¬ tgA s i<s.gLo:=by omega
        have c2:¬ s.gHi<tgA s i:=by omega
        have c3:¬ oLoF s (tgA s i) s.ts.length<s.oLo:=by omega
        have c4:¬ oHiF s (tgA s i) s.ts.length<oLoF s (tgA s i) s.ts.length:=by omega
        have c5:¬ s.oHi<oHiF s (tgA s i) s.ts.length:=by omega
        repeat (first|(with_reducible first|apply X1|apply X2|apply X5|apply X6|apply X8|apply Y9)|((with_reducible apply e_end);(simp;exact Rz))|((first|((with_reducible apply O1);rfl)|((with_reducible apply O2);rfl)|((with_reducible apply P1);rfl)|((with_reducible apply P2);rfl));(simp (disch:=omega) [hlt,hlt2,rd_old _ hid1,hr,rd_old _ l5,r52,r53,r54,r55,c1,c2,c3,c4,c5];exact Rz);exact Rz;(focus (first|(simp;done)|omega|(simp;omega))))|((with_reducible first|apply Z8|apply Z9);(simp (disch:=omega) [hlt,hlt2,rd_old _ hid1,hr,rd_old _ l5,r52,r53,r54,r55,c1,c2,c3,c4,c5];exact Rz)))
        refine d_cut (fun t' h'=>t'=[(5,.ptr q5 0),(9,.ptr q9 0),(11,.bool true),(12,.int .i64 x),(13,.int .i64 y),(14,.int .i64 w),(15,.slice id1 0 (TG s s.gs).length 3 false),(16,.int .i64 0),(17,.ptr X.length 0),(19,.bool to),(20,.bool fl),(21,.bool fh),(23,.ptr (X.length+(G.length+1)) 0),(112,.slice id1 0 (TG s s.gs).length 3 false),(113,.int .i64 ((TG s s.gs).length:Nat)),(114,.int .i64 i),(174,.bool false)]∧h'=X++.cells [.int .i64 rl,.int .i64 rh] true :: (G++[.cells [.int .i64 (tgA s i),.int .i64 (oLoF s (tgA s i) s.ts.length),.int .i64 (oHiF s (tgA s i) s.ts.length)] true])) ?_ ?_
        · by_cases hi0:0<i
          · have hr0:rd X id1 ((i-1) * 3) 1=some [.int .i64 (tgA s (i-1))]:=by
              have:=rd_sub' (hrow (i-1) (by omega)) 0 1 (by omega);simpa using this
            have c6:¬ tgA s i≤tgA s (i-1):=by have:=tg_inc hlt hi0;omega
            have hi0i:(0:Int)<i:=by omega
            have c7:i-1<(TG s s.gs).length:=by omega
            repeat (first|((with_reducible apply d_end);(simp;exact Rz))|((first|((with_reducible apply P1);rfl)|((with_reducible apply P2);rfl));(simp (disch:=omega) [hi0,hi0i,rd_old _ hid1,hr0,c6,c7];exact Rz);exact Rz;(focus (first|(simp;done)|omega|(simp;omega))))|((with_reducible apply Z8);(simp (disch:=omega) [hi0,hi0i,rd_old _ hid1,hr0,c6,c7];exact Rz)))
            exact q_keep ⟨rfl,by simp⟩
          · have hi0i:¬ (0:Int)<i:=by omega
            repeat (first|((with_reducible apply d_end);(simp;exact Rz))|((with_reducible apply P1);rfl;(simp (disch:=omega) [hi0,hi0i];exact Rz);exact Rz;(focus (first|(simp;done)|omega|(simp;omega))))|((with_reducible apply Z8);(simp (disch:=omega) [hi0,hi0i];exact Rz))|((with_reducible apply Z5);(simp (disch:=omega) [hi0,hi0i];exact Rz)))
            exact q_keep ⟨rfl,by simp⟩
        rintro _ _ ⟨rfl,rfl⟩
        repeat (first|(with_reducible first|apply X1|apply X2|apply X5|apply X8)|((with_reducible apply O1);rfl;(simp (disch:=omega);exact Rz);exact Rz;(focus (first|(simp;done)|omega|(simp;omega))))|((with_reducible apply W3);(simp (disch:=omega);exact Rz)))
        refine e_cut (fun t' h'=>∃ (to2:Bool) (G1:Heap),t'=[(5,.ptr q5 0),(9,.ptr q9 0),(11,.bool true),(12,.int .i64 x),(13,.int .i64 y),(14,.int .i64 w),(15,.slice id1 0 (TG s s.gs).length 3 false),(16,.int .i64 0),(17,.ptr X.length 0),(19,.bool to2),(20,.bool fl),(21,.bool fh),(23,.ptr (X.length+(G.length+1)) 0),(112,.slice id1 0 (TG s s.gs).length 3 false),(113,.int .i64 ((TG s s.gs).length:Nat)),(114,.int .i64 i)]∧h'=X++.cells [.int .i64 rl,.int .i64 rh] true :: (G++.cells [.int .i64 (tgA s i),.int .i64 (oLoF s (tgA s i) s.ts.length),.int .i64 (oHiF s (tgA s i) s.ts.length)] true :: G1)∧(to2=true↔∃ j,j<i+1∧(tgA s j=x∧oLoF s (tgA s j) s.ts.length≤y∧y≤oHiF s (tgA s j) s.ts.length))) ?_ ?_
        · have step:∀ c:Bool,(c=true↔to=true∨(tgA s i=x∧oLoF s (tgA s i) s.ts.length≤y∧y≤oHiF s (tgA s i) s.ts.length))→(c=true↔∃ j,j<i+1∧(tgA s j=x∧oLoF s (tgA s j) s.ts.length≤y∧y≤oHiF s (tgA s j) s.ts.length)):=fun c hc=>by
            rw [hc,h1]
            constructor
            · rintro (⟨k,k1,k2⟩|h)
              · exact⟨k,by omega,k2⟩
              · exact⟨i,by omega,h⟩
            · rintro⟨k,k1,k2⟩
              rcases Nat.lt_or_ge k i with h|h
              · exact .inl ⟨k,h,k2⟩
              · obtain rfl:k=i:=by omega
                exact .inr k2
          cases to with
          | true =>
            repeat (first|((with_reducible apply e_end);(simp;exact Rz))|((with_reducible apply O1);rfl;(simp (disch:=omega);exact Rz);exact Rz;(focus (first|(simp;done)|omega|(simp;omega))))|((with_reducible apply Z2);(simp (disch:=omega);exact Rz))|((with_reducible apply W1);(simp (disch:=omega);exact Rz)))
            exact q_keep ⟨true,[],rfl,by simp,step true (by simp)⟩
          | false =>
            by_cases hgx:tgA s i=x
            · obtain⟨bi,hbi⟩:=bof (oLoF s (tgA s i) s.ts.length≤y∧y≤oHiF s (tgA s i) s.ts.length)
              have hbi2:=hbi
              rw [hgx] at hbi2
              repeat (first|((with_reducible apply O1);rfl;(simp (disch:=omega) [hgx];exact Rz);exact Rz;(focus (first|(simp;done)|omega|(simp;omega))))|((with_reducible apply Z7);(simp (disch:=omega) [hgx];exact Rz)))
              (with_reducible apply e_call);(simp;exact Rz);exact c_in1 _ _ _ _ _ _ _ (by simp [Nat.add_assoc]) hbi2
              rintro _ _ ⟨rfl,rfl⟩
              repeat (first|((with_reducible apply e_end);(simp;exact Rz))|((with_reducible apply O1);rfl;(simp (disch:=omega);exact Rz);exact Rz;(focus (first|(simp;done)|omega|(simp;omega))))|((with_reducible apply Z7);(simp (disch:=omega);exact Rz)))
              exact q_keep ⟨bi,[.cells [.int .i64 (oLoF s x s.ts.length),.int .i64 (oHiF s x s.ts.length)] true],rfl,by simp [hgx],step bi (by rw [hbi];exact⟨fun h=>.inr ⟨hgx,h⟩,fun h=>h.elim (fun h=>by cases h) fun h=>h.2⟩)⟩
            · repeat (first|((with_reducible apply e_end);(simp;exact Rz))|((with_reducible apply O1);rfl;(simp (disch:=omega) [hgx];exact Rz);exact Rz;(focus (first|(simp;done)|omega|(simp;omega))))|((with_reducible apply Z7);(simp (disch:=omega) [hgx];exact Rz))|((with_reducible apply Z1);(simp (disch:=omega) [hgx];exact Rz)))
              exact q_keep ⟨false,[],rfl,by simp,step false (by simp [hgx])⟩
        rintro _ _ ⟨to2,G1,rfl,rfl,h1n⟩
        repeat (first|(with_reducible first|apply X1|apply X2|apply X6|apply X8)|((with_reducible apply e_end);(simp;exact Rz))|((with_reducible apply O1);rfl;(simp (disch:=omega);exact Rz);exact Rz;(focus (first|(simp;done)|omega|(simp;omega)))))
        have tra:=tru_at hs hlt
        have obd:=o_bd hs (g:=tgA s i) (by omega) s.ts.length (Nat.le_refl _)
        have kD2:=fun G o ho=>c_lawReads (X++G) s tid toff ex (by simp;omega) hb.2.1 (tgA s i) o w (by omega) ho hwb
        have kU2:=fun G o ho ht=>c_r4True (X++G) s tid toff ex (by rw [rd_old _ ltX];exact htX) hs (tgA s i) o (by omega) ho (b:=true) ⟨fun _=>ht,fun _=>rfl⟩
        simp only [Sc.av] at kD2 kU2
        have eL:shF s (tgA s i) (oLoF s (tgA s i) s.ts.length) w=rdFL s w i:=rfl
        have eH:shF s (tgA s i) (oHiF s (tgA s i) s.ts.length) w=rdFH s w i:=rfl
        have hq:∀ n,n+1≤2→rd (X++.cells [.int .i64 rl,.int .i64 rh] true :: (G++.cells [.int .i64 (tgA s i),.int .i64 (oLoF s (tgA s i) s.ts.length),.int .i64 (oHiF s (tgA s i) s.ts.length)] true :: (G1++[.cells [.int .i64 (oLoF s (tgA s i) s.ts.length),.int .i64 (oHiF s (tgA s i) s.ts.length)] true]))) (X.length+(G.length+(G1.length+1)+1)) n 1=some (([.int .i64 (oLoF s (tgA s i) s.ts.length),.int .i64 (oHiF s (tgA s i) s.ts.length)].drop n).take 1):=fun n hn=>by
          have q1:X++.cells [.int .i64 rl,.int .i64 rh] true :: (G++.cells [.int .i64 (tgA s i),.int .i64 (oLoF s (tgA s i) s.ts.length),.int .i64 (oHiF s (tgA s i) s.ts.length)] true :: (G1++[.cells [.int .i64 (oLoF s (tgA s i) s.ts.length),.int .i64 (oHiF s (tgA s i) s.ts.length)] true]))=(X++.cells [.int .i64 rl,.int .i64 rh] true :: (G++.cells [.int .i64 (tgA s i),.int .i64 (oLoF s (tgA s i) s.ts.length),.int .i64 (oHiF s (tgA s i) s.ts.length)] true :: G1))++[.cells [.int .i64 (oLoF s (tgA s i) s.ts.length),.int .i64 (oHiF s (tgA s i) s.ts.length)] true]:=by simp
          have q2:X.length+(G.length+(G1.length+1)+1)=(X++.cells [.int .i64 rl,.int .i64 rh] true :: (G++.cells [.int .i64 (tgA s i),.int .i64 (oLoF s (tgA s i) s.ts.length),.int .i64 (oHiF s (tgA s i) s.ts.length)] true :: G1)).length:=by simp
          rw [q1,q2]
          exact rd_cellsK (b:=true) (cs:=[.int .i64 (oLoF s (tgA s i) s.ts.length),.int .i64 (oHiF s (tgA s i) s.ts.length)]) (by simp) hn
        have hq0:=hq 0 (by omega)
        have hq1:=hq 1 (by omega)
        simp only [List.drop_zero,List.drop_succ_cons,List.take_succ_cons,List.take_zero] at hq0 hq1
        have d1:¬ rdFL s w i<rl:=by omega
        have d2:¬ rh<rdFL s w i:=by omega
        have d3:¬ rdFH s w i<rl:=by omega
        have d4:¬ rh<rdFH s w i:=by omega
        refine e_loop (ι:={ z:Nat × Bool × Bool // z.1≤2∧(z.2.1=true↔fl=true∨(0<z.1∧rdFL s w i=rl)∨(1<z.1∧rdFH s w i=rl))∧(z.2.2=true↔fh=true∨(0<z.1∧rdFL s w i=rh)∨(1<z.1∧rdFH s w i=rh)) })
          (fun z=>[(5,.ptr q5 0),(9,.ptr q9 0),(11,.bool true),(12,.int .i64 x),(13,.int .i64 y),(14,.int .i64 w),(15,.slice id1 0 (TG s s.gs).length 3 false),(16,.int .i64 0),(17,.ptr X.length 0),(19,.bool to2),(20,.bool z.1.2.1),(21,.bool z.1.2.2),(23,.ptr (X.length+(G.length+1)) 0),(112,.slice id1 0 (TG s s.gs).length 3 false),(113,.int .i64 ((TG s s.gs).length:Nat)),(114,.int .i64 i),(195,.slice (X.length+(G.length+(G1.length+1)+1)) 0 2 1 true),(196,.int .i64 2),(197,.int .i64 z.1.1)]) (fun _=>X++.cells [.int .i64 rl,.int .i64 rh] true :: (G++.cells [.int .i64 (tgA s i),.int .i64 (oLoF s (tgA s i) s.ts.length),.int .i64 (oHiF s (tgA s i) s.ts.length)] true :: (G1++[.cells [.int .i64 (oLoF s (tgA s i) s.ts.length),.int .i64 (oHiF s (tgA s i) s.ts.length)] true]))) (fun z=>2-z.1.1) ⟨(0,fl,fh),by simp⟩ ?_ ?_
        · exact .inl rfl
        · rintro⟨⟨kk,b1,b2⟩,hkk,hb1,hb2⟩
          dsimp only at hkk hb1 hb2 ⊢
          rcases (show kk=0∨kk=1∨kk=2 by omega) with rfl|rfl|rfl
          · repeat (first|(with_reducible first|apply X1|apply X2|apply X5|apply X6|apply X8)|((with_reducible apply e_end);(simp;exact Rz))|((with_reducible apply O1);rfl;(simp (disch:=omega) [hq0,rd_old _ l5,r5];exact Rz);exact Rz;(focus (first|(simp;done)|omega|(simp;omega))))|((with_reducible apply Z9);(simp (disch:=omega) [hq0,rd_old _ l5,r5];exact Rz)))
            (with_reducible apply e_call);(simp;exact Rz);exact kD2 _ _ (by omega)
            rintro _ _ ⟨rfl,rfl⟩
            rw [eL]
            repeat (first|(with_reducible first|apply X1|apply X2|apply X8)|((with_reducible apply e_end);(simp;exact Rz))|((with_reducible apply O1);rfl;(simp (disch:=omega) [rd_old _ l5,r5];exact Rz);exact Rz;(focus (first|(simp;done)|omega|(simp;omega)))))
            (with_reducible apply e_call);(simp;exact Rz);exact kU2 _ _ (by omega) tra.1
            rintro _ _ ⟨rfl,rfl⟩
            repeat (first|(with_reducible first|apply X5|apply X8|apply Y9)|((with_reducible apply e_end);(simp;exact Rz))|((first|((with_reducible apply O1);rfl)|((with_reducible apply P1);rfl));(simp (disch:=omega) [d1,d2];exact Rz);exact Rz;(focus (first|(simp;done)|omega|(simp;omega))))|((with_reducible apply Z7);(simp (disch:=omega) [d1,d2];exact Rz))|((with_reducible apply W3);(simp (disch:=omega) [d1,d2];exact Rz)))
            refine d_cut (fun t' h'=>∃ f1 f2:Bool,t'=[(5,.ptr q5 0),(9,.ptr q9 0),(11,.bool true),(12,.int .i64 x),(13,.int .i64 y),(14,.int .i64 w),(15,.slice id1 0 (TG s s.gs).length 3 false),(16,.int .i64 0),(17,.ptr X.length 0),(19,.bool to2),(20,.bool f1),(21,.bool f2),(23,.ptr (X.length+(G.length+1)) 0),(112,.slice id1 0 (TG s s.gs).length 3 false),(113,.int .i64 ((TG s s.gs).length:Nat)),(114,.int .i64 i),(195,.slice (X.length+(G.length+(G1.length+1)+1)) 0 2 1 true),(196,.int .i64 2),(197,.int .i64 0)]∧h'=X++.cells [.int .i64 rl,.int .i64 rh] true :: (G++.cells [.int .i64 (tgA s i),.int .i64 (oLoF s (tgA s i) s.ts.length),.int .i64 (oHiF s (tgA s i) s.ts.length)] true :: (G1++[.cells [.int .i64 (oLoF s (tgA s i) s.ts.length),.int .i64 (oHiF s (tgA s i) s.ts.length)] true]))∧(f1=true↔b1=true∨rdFL s w i=rl)∧(f2=true↔b2=true∨rdFL s w i=rh)) ?_ ?_
            · cases b1 with
              | true =>
                cases b2 with
                | true =>
                  repeat (first|((with_reducible apply d_end);(simp;exact Rz))|((with_reducible apply P1);rfl;(simp (disch:=omega);exact Rz);exact Rz;(focus (first|(simp;done)|omega|(simp;omega))))|((with_reducible apply Z6);(simp (disch:=omega);exact Rz)))
                  exact q_keep ⟨true,true,rfl,rfl,by simp,by simp⟩
                | false =>
                  repeat (first|((with_reducible apply d_end);(simp;exact Rz))|((first|((with_reducible apply P1);rfl)|((with_reducible apply P2);rfl));(simp (disch:=omega);exact Rz);exact Rz;(focus (first|(simp;done)|omega|(simp;omega))))|((with_reducible apply Z8);(simp (disch:=omega);exact Rz))|((with_reducible apply Z6);(simp (disch:=omega);exact Rz)))
                  exact q_keep ⟨true,decide (rdFL s w i=rh),rfl,rfl,by simp,by simp⟩
              | false =>
                cases b2 with
                | true =>
                  repeat (first|((with_reducible apply d_end);(simp;exact Rz))|((first|((with_reducible apply P1);rfl)|((with_reducible apply P2);rfl));(simp (disch:=omega);exact Rz);exact Rz;(focus (first|(simp;done)|omega|(simp;omega))))|((with_reducible apply Z8);(simp (disch:=omega);exact Rz))|((with_reducible apply Z6);(simp (disch:=omega);exact Rz)))
                  exact q_keep ⟨decide (rdFL s w i=rl),true,rfl,rfl,by simp,by simp⟩
                | false =>
                  repeat (first|((with_reducible apply d_end);(simp;exact Rz))|((first|((with_reducible apply P1);rfl)|((with_reducible apply P2);rfl));(simp (disch:=omega);exact Rz);exact Rz;(focus (first|(simp;done)|omega|(simp;omega))))|((with_reducible apply Z8);(simp (disch:=omega);exact Rz)))
                  exact q_keep ⟨decide (rdFL s w i=rl),decide (rdFL s w i=rh),rfl,rfl,by simp,by simp⟩
            rintro _ _ ⟨f1,f2,rfl,rfl,u1,u2⟩
            repeat (first|(with_reducible first|apply X2|apply X8|apply Y2)|((with_reducible apply e_end);(simp;exact Rz))|((with_reducible apply O1);rfl;(simp (disch:=omega);exact Rz);exact Rz;(focus (first|(simp;done)|omega|(simp;omega)))))
            exact q_again ⟨(1,f1,f2),by omega,by dsimp only;rw [u1,hb1];simp [or_assoc],by dsimp only;rw [u2,hb2];simp [or_assoc]⟩ (by dsimp only;omega) (.inl rfl)
          · repeat (first|(with_reducible first|apply X1|apply X2|apply X5|apply X6|apply X8)|((with_reducible apply e_end);(simp;exact Rz))|((with_reducible apply O1);rfl;(simp (disch:=omega) [hq1,rd_old _ l5,r5];exact Rz);exact Rz;(focus (first|(simp;done)|omega|(simp;omega))))|((with_reducible apply Z9);(simp (disch:=omega) [hq1,rd_old _ l5,r5];exact Rz)))
            (with_reducible apply e_call);(simp;exact Rz);exact kD2 _ _ (by omega)
            rintro _ _ ⟨rfl,rfl⟩
            rw [eH]
            repeat (first|(with_reducible first|apply X1|apply X2|apply X8)|((with_reducible apply e_end);(simp;exact Rz))|((with_reducible apply O1);rfl;(simp (disch:=omega) [rd_old _ l5,r5];exact Rz);exact Rz;(focus (first|(simp;done)|omega|(simp;omega)))))
            (with_reducible apply e_call);(simp;exact Rz);exact kU2 _ _ (by omega) tra.2
            rintro _ _ ⟨rfl,rfl⟩
            repeat (first|(with_reducible first|apply X5|apply X8|apply Y9)|((with_reducible apply e_end);(simp;exact Rz))|((first|((with_reducible apply O1);rfl)|((with_reducible apply P1);rfl));(simp (disch:=omega) [d3,d4];exact Rz);exact Rz;(focus (first|(simp;done)|omega|(simp;omega))))|((with_reducible apply Z7);(simp (disch:=omega) [d3,d4];exact Rz))|((with_reducible apply W3);(simp (disch:=omega) [d3,d4];exact Rz)))
            refine d_cut (fun t' h'=>∃ f1 f2:Bool,t'=[(5,.ptr q5 0),(9,.ptr q9 0),(11,.bool true),(12,.int .i64 x),(13,.int .i64 y),(14,.int .i64 w),(15,.slice id1 0 (TG s s.gs).length 3 false),(16,.int .i64 0),(17,.ptr X.length 0),(19,.bool to2),(20,.bool f1),(21,.bool f2),(23,.ptr (X.length+(G.length+1)) 0),(112,.slice id1 0 (TG s s.gs).length 3 false),(113,.int .i64 ((TG s s.gs).length:Nat)),(114,.int .i64 i),(195,.slice (X.length+(G.length+(G1.length+1)+1)) 0 2 1 true),(196,.int .i64 2),(197,.int .i64 1)]∧h'=X++.cells [.int .i64 rl,.int .i64 rh] true :: (G++.cells [.int .i64 (tgA s i),.int .i64 (oLoF s (tgA s i) s.ts.length),.int .i64 (oHiF s (tgA s i) s.ts.length)] true :: (G1++[.cells [.int .i64 (oLoF s (tgA s i) s.ts.length),.int .i64 (oHiF s (tgA s i) s.ts.length)] true]))∧(f1=true↔b1=true∨rdFH s w i=rl)∧(f2=true↔b2=true∨rdFH s w i=rh)) ?_ ?_
            · cases b1 with
              | true =>
                cases b2 with
                | true =>
                  repeat (first|((with_reducible apply d_end);(simp;exact Rz))|((with_reducible apply P1);rfl;(simp (disch:=omega);exact Rz);exact Rz;(focus (first|(simp;done)|omega|(simp;omega))))|((with_reducible apply Z6);(simp (disch:=omega);exact Rz)))
                  exact q_keep ⟨true,true,rfl,rfl,by simp,by simp⟩
                | false =>
                  repeat (first|((with_reducible apply d_end);(simp;exact Rz))|((first|((with_reducible apply P1);rfl)|((with_reducible apply P2);rfl));(simp (disch:=omega);exact Rz);exact Rz;(focus (first|(simp;done)|omega|(simp;omega))))|((with_reducible apply Z8);(simp (disch:=omega);exact Rz))|((with_reducible apply Z6);(simp (disch:=omega);exact Rz)))
                  exact q_keep ⟨true,decide (rdFH s w i=rh),rfl,rfl,by simp,by simp⟩
              | false =>
                cases b2 with
                | true =>
                  repeat (first|((with_reducible apply d_end);(simp;exact Rz))|((first|((with_reducible apply P1);rfl)|((with_reducible apply P2);rfl));(simp (disch:=omega);exact Rz);exact Rz;(focus (first|(simp;done)|omega|(simp;omega))))|((with_reducible apply Z8);(simp (disch:=omega);exact Rz))|((with_reducible apply Z6);(simp (disch:=omega);exact Rz)))
                  exact q_keep ⟨decide (rdFH s w i=rl),true,rfl,rfl,by simp,by simp⟩
                | false =>
                  repeat (first|((with_reducible apply d_end);(simp;exact Rz))|((first|((with_reducible apply P1);rfl)|((with_reducible apply P2);rfl));(simp (disch:=omega);exact Rz);exact Rz;(focus (first|(simp;done)|omega|(simp;omega))))|((with_reducible apply Z8);(simp (disch:=omega);exact Rz)))
                  exact q_keep ⟨decide (rdFH s w i=rl),decide (rdFH s w i=rh),rfl,rfl,by simp,by simp⟩
            rintro _ _ ⟨f1,f2,rfl,rfl,u1,u2⟩
            repeat (first|(with_reducible first|apply X2|apply X8|apply Y2)|((with_reducible apply e_end);(simp;exact Rz))|((with_reducible apply O1);rfl;(simp (disch:=omega);exact Rz);exact Rz;(focus (first|(simp;done)|omega|(simp;omega)))))
            exact q_again ⟨(2,f1,f2),by omega,by dsimp only;rw [u1,hb1];simp [or_assoc],by dsimp only;rw [u2,hb2];simp [or_assoc]⟩ (by dsimp only;omega) (.inl rfl)
          · repeat (first|(with_reducible first|apply X1|apply X2|apply X4|apply X8|apply Y1|apply Y2|apply Y4|apply Y6)|((with_reducible apply e_end);(simp;exact Rz))|((with_reducible apply O1);rfl;(simp (disch:=omega);exact Rz);exact Rz;(focus (first|(simp;done)|omega|(simp;omega))))|((with_reducible apply W3);(simp (disch:=omega);exact Rz)))
            refine q_again ⟨(i+1,to2,b1,b2,G++.cells [.int .i64 (tgA s i),.int .i64 (oLoF s (tgA s i) s.ts.length),.int .i64 (oHiF s (tgA s i) s.ts.length)] true :: (G1++[.cells [.int .i64 (oLoF s (tgA s i) s.ts.length),.int .i64 (oHiF s (tgA s i) s.ts.length)] true])),hlt,h1n,?_,?_⟩ (by dsimp only;omega) (.inl (by simp))
            · dsimp only
              rw [hb1,h2]
              constructor
              · rintro (⟨k,k1,k2⟩|h|h)
                · exact⟨k,by omega,k2⟩
                · exact⟨i,by omega,.inl h.2⟩
                · exact⟨i,by omega,.inr h.2⟩
              · rintro⟨k,k1,k2⟩
                rcases Nat.lt_or_ge k i with h|h
                · exact .inl ⟨k,h,k2⟩
                · obtain rfl:k=i:=by omega
                  rcases k2 with h|h
                  · exact .inr (.inl ⟨by omega,h⟩)
                  · exact .inr (.inr ⟨by omega,h⟩)
            · dsimp only
              rw [hb2,h3]
              constructor
              · rintro (⟨k,k1,k2⟩|h|h)
                · exact⟨k,by omega,k2⟩
                · exact⟨i,by omega,.inl h.2⟩
                · exact⟨i,by omega,.inr h.2⟩
              · rintro⟨k,k1,k2⟩
                rcases Nat.lt_or_ge k i with h|h
                · exact .inl ⟨k,h,k2⟩
                · obtain rfl:k=i:=by omega
                  rcases k2 with h|h
                  · exact .inr (.inl ⟨by omega,h⟩)
                  · exact .inr (.inr ⟨by omega,h⟩)
      · have hlt2:¬ (i:Int)<((TG s s.gs).length:Nat):=by omega
        obtain rfl:i=(TG s s.gs).length:=by omega
        have eto:to=bt:=by
          rw [Bool.eq_iff_iff,h1,hbt,tru_iff hs]
          constructor
          · rintro⟨j,h,rfl,h2⟩;exact⟨j,h,rfl,h2⟩
          · rintro⟨j,h,rfl,h2⟩;exact⟨j,h,rfl,h2⟩
        have efl:fl=true:=by
          obtain⟨k,hk,he⟩:=wLo_at (rdFL s w) ((TG s s.gs).length-1)
          exact h2.2 ⟨k,by omega,.inl (by rw [hrl,rdLo,if_pos eR,he])⟩
        have efh:fh=true:=by
          obtain⟨k,hk,he⟩:=wHi_at (rdFH s w) ((TG s s.gs).length-1)
          exact h3.2 ⟨k,by omega,.inr (by rw [hrh,rdHi,if_pos eR,he])⟩
        subst eto efl efh
        repeat (first|(with_reducible first|apply X1|apply X2|apply X4|apply X8|apply Y1|apply Y4|apply Y6)|((with_reducible apply e_end);(simp;exact Rz))|((with_reducible apply O1);rfl;(simp (disch:=omega) [hlt2,rd_old _ l5,r5];exact Rz);exact Rz;(focus (first|(simp;done)|omega|(simp;omega))))|((with_reducible apply W3);(simp (disch:=omega) [hlt2,rd_old _ l5,r5];exact Rz)))
        (with_reducible apply e_call);(simp;exact Rz);exact kU _
        rintro _ _ ⟨rfl,rfl⟩
        repeat (first|(with_reducible first|apply X1|apply X2|apply X5|apply X8)|((with_reducible apply e_end);(simp;exact Rz))|((with_reducible apply O1);rfl;(simp (disch:=omega) [rd_old _ l5,r5];exact Rz);exact Rz;(focus (first|(simp;done)|omega|(simp;omega))))|((with_reducible apply Z7);(simp (disch:=omega) [rd_old _ l5,r5];exact Rz))|((with_reducible apply W3);(simp (disch:=omega) [rd_old _ l5,r5];exact Rz)))
        (with_reducible apply e_call);(simp;exact Rz);exact kD _
        rintro _ _ ⟨rfl,rfl⟩
        repeat (first|(with_reducible first|apply X1|apply X2|apply X8)|((with_reducible apply e_end);(simp;exact Rz))|((with_reducible apply O1);rfl;(simp (disch:=omega);exact Rz);exact Rz;(focus (first|(simp;done)|omega|(simp;omega)))))
        refine e_cut (fun t' h'=>t'=[(5,.ptr q5 0),(9,.ptr q9 0),(11,.bool true),(15,.slice id1 0 (TG s s.gs).length 3 false),(284,.bool false)]∧h'=X++.cells [.int .i64 rl,.int .i64 rh] true :: G) ?_ ?_
        · cases to with
          | false =>
            repeat (first|((with_reducible apply e_end);(simp;exact Rz))|((with_reducible apply O1);rfl;(simp (disch:=omega);exact Rz);exact Rz;(focus (first|(simp;done)|omega|(simp;omega))))|((with_reducible apply Z1);(simp (disch:=omega);exact Rz))|((with_reducible apply W1);(simp (disch:=omega);exact Rz)))
            exact q_keep ⟨rfl,rfl⟩
          | true =>
            obtain⟨k,hk,hkx,hky⟩:=(tru_iff hs x y).1 (hbt.1 rfl)
            have rbk:=rin k hk
            rw [← hrl,← hrh] at rbk
            have m1:rdFL s w k≤shF s x y w:=by rw [← hkx];exact sh_mono hb.2.1 (by rw [hkx];exact hky.1)
            have m2:shF s x y w≤rdFH s w k:=by rw [← hkx];exact sh_mono hb.2.1 (by rw [hkx];exact hky.2)
            have p1:¬ shF s x y w<rl:=by omega
            have p2:¬ rh<shF s x y w:=by omega
            have p3:(shF s x y w).tmod s.step=0:=Int.tmod_eq_zero_of_dvd (Int.dvd_of_emod_eq_zero (sh_step s x y w))
            have p4:¬ s.step=0:=by omega
            repeat (first|((with_reducible apply e_end);(simp;exact Rz))|((with_reducible apply O1);rfl;(simp (disch:=omega) [rd_old _ l5,p1,p2,r51,p3,p4];exact Rz);exact Rz;(focus (first|(simp;done)|omega|(simp;omega))))|((with_reducible apply Z7);(simp (disch:=omega) [rd_old _ l5,p1,p2,r51,p3,p4];exact Rz)))
            exact q_keep ⟨rfl,rfl⟩
        rintro _ _ ⟨rfl,rfl⟩
        repeat (first|(with_reducible first|apply X1|apply X2|apply X5|apply X8)|((with_reducible apply O1);rfl;(simp (disch:=omega) [rd_old _ l5,r5];exact Rz);exact Rz;(focus (first|(simp;done)|omega|(simp;omega))))|((with_reducible apply W3);(simp (disch:=omega) [rd_old _ l5,r5];exact Rz)))
        refine gen_ops (fun t X=>∃ q5 q9 lv,t=[(285,.agg [.int .i64 s.id,.int .i64 s.step,.int .i64 s.gLo,.int .i64 s.gHi,.int .i64 s.oLo,.int .i64 s.oHi,.slice tid toff s.ts.length 2 ex]),(5,.ptr q5 0),(9,.ptr q9 0),(11,.bool true),(15,lv),(284,.bool false)]∧rd X q9 0 2=some [.int .i64 mw,.int .i64 mn]∧rd X tid toff (s.ts.length * 2)=some (s.ts.flatMap Ti.av)∧AAt X 3 lv (tunL s (TG s s.gs)) (TG s s.gs).length) ?_ ?_
        · exact⟨_,_,_,rfl,by rw [rd_old _ l9];exact r9,by rw [rd_old _ ltX];exact htX,hA.app _⟩
        clear kR kU kD
        rintro _ X ⟨q5,q9,lv,rfl,r9,htX,hA⟩
        have kW:=c_TwinScale X s tid toff ex htX (by omega)
        have l9:=rd_lt r9
        simp only [Sc.av] at kW
        (with_reducible apply e_call);(simp;exact Rz);exact kW
        rintro _ hqh ⟨rfl,hqe⟩
        rw [hqe];clear hqe hqh
        have pl:=ti_plain s.ts
        have tl:=ti_len s.ts
        obtain⟨s2,hs2⟩:∃ s2,s2=s.more ⟨mw,mn⟩:=⟨_,rfl⟩
        have e2:s2.ts.flatMap Ti.av=s.ts.flatMap Ti.av++[.int .i64 mw,.int .i64 mn]:=by rw [hs2];simp [Sc.more,Ti.av]
        have n2:s2.ts.length=s.ts.length+1:=by rw [hs2];exact more_len s _
        have av2:s2.av (X.length+3) 0 false=[.int .i64 s.id,.int .i64 s.step,.int .i64 s.gLo,.int .i64 s.gHi,.int .i64 s.oLo,.int .i64 s.oHi,.slice (X.length+3) 0 (s.ts.length+1) 2 false]:=by
          simp only [Sc.av,n2];rw [hs2];rfl
        obtain⟨b2,hb2⟩:=bof s2.ok
        have r2:∀ a b c:AObj,rd (X++[a,b,c,.cells (s.ts.flatMap Ti.av++[.int .i64 mw,.int .i64 mn]) true]) (X.length+3) 0 (s2.ts.length * 2)=some (s2.ts.flatMap Ti.av):=fun a b c=>by
          rw [e2]
          exact rd_full (b:=true) (by simp) (by rw [List.length_append,tl,n2];simp;omega)
        have kS2:=fun a b c=>c_r4Scale _ s2 (X.length+3) 0 false (r2 a b c) (by omega) hb2
        have kT2:=fun a b c=>c_Tunes _ s2 (X.length+3) 0 false (r2 a b c) (by omega)
        rw [av2] at kS2 kT2
        repeat (first|(with_reducible first|apply X1|apply X2|apply X8)|((with_reducible apply e_end);(simp;exact Rz))|((first|((with_reducible apply O1);rfl)|((with_reducible apply O2);rfl));(simp (disch:=omega) [pl.scal,tl,rd_old _ l9,r9,take_all tl];exact Rz);exact Rz;(focus (first|(simp;done)|omega|(simp;omega)))))
        (with_reducible apply e_call);(simp;exact Rz);exact (kS2 _ _ _)
        rintro _ hqh ⟨rfl,hqe⟩
        rw [hqe];clear hqe hqh
        cases b2 with
        | false =>
          repeat (first|(with_reducible first|apply X1|apply X2|apply X3|apply X8|apply X9)|((with_reducible apply e_end);(simp;exact Rz))|((with_reducible apply O1);rfl;(simp (disch:=omega);exact Rz);exact Rz;(focus (first|(simp;done)|omega|(simp;omega))))|((with_reducible apply Z9);(simp (disch:=omega);exact Rz)))
          exact q_stay (.inr rfl) (by simp;exact Rz) rfl
        | true =>
          have hok2:=hb2.1 rfl
          repeat (first|(with_reducible first|apply X1|apply X2|apply X5|apply X8)|((with_reducible apply e_end);(simp;exact Rz))|((with_reducible apply O1);rfl;(simp (disch:=omega);exact Rz);exact Rz;(focus (first|(simp;done)|omega|(simp;omega))))|((with_reducible apply W3);(simp (disch:=omega);exact Rz)))
          (with_reducible apply e_call);(simp;exact Rz);exact kT2 _ _ _
          rintro _ _ ⟨mv,G2,rfl,rfl,hB⟩
          have eS2:tunS s2=TG s2 s2.gs:=by simp only [tunS,if_pos hok2]
          have eE2:tunE s2=if TG s2 s2.gs=[] then 6 else 0:=by simp only [tunE,if_pos hok2]
          obtain⟨er,her⟩:∃ e:Int,e=if TG s2 s2.gs=[] then 6 else 0:=⟨_,rfl⟩
          rw [← her] at eE2
          rw [eS2] at hB
          rw [eE2]
          have smv:=hB.l.sc (Nat.le_refl _)
          simp only [List.append_assoc,List.cons_append,List.nil_append] at hB smv ⊢
          repeat (first|(with_reducible first|apply X1|apply X2|apply X8)|((with_reducible apply e_end);(simp;exact Rz))|((with_reducible apply O1);rfl;(simp (disch:=omega);exact Rz);exact Rz;(focus (first|(simp;done)|omega|(simp;omega)))))
          refine gen_ops (fun t Y=>t=[(302,mv),(11,.bool true),(15,lv),(29,mv),(30,.int .i64 er)]∧AAt Y 3 lv (tunL s (TG s s.gs)) (TG s s.gs).length∧AAt Y 3 mv (tunL s2 (TG s2 s2.gs)) (TG s2 s2.gs).length) ⟨rfl,hA.app _,hB⟩ ?_
          clear kS2 kT2 r2 kW hA hB smv r9 l9 htX pl tl av2
          clear G2 X
          rintro _ Y ⟨rfl,hA,hB⟩
          have slv:∀ m,lv.sc (Y.length+m)=true:=fun m=>hA.l.sc (by omega)
          have smv:∀ m,mv.sc (Y.length+m)=true:=fun m=>hB.l.sc (by omega)
          have slv0:=slv 0
          have smv0:=smv 0
          rw [Nat.add_zero] at slv0 smv0
          have gl:=TG_len s s.gs
          have gl2:=TG_len s2 s2.gs
          have gb1:s.gs≤21:=by simp only [Sc.gs];omega
          have hb2':=hok2.b
          simp only [Sc.built] at hb2'
          have gb2:s2.gs≤21:=by simp only [Sc.gs];omega
          (with_reducible apply e_op);rfl;exact hB.l.r.len Y (by simp);exact Rz;trivial
          repeat (first|(with_reducible first|apply X6|apply X8)|((with_reducible apply e_end);(simp;exact Rz))|((with_reducible apply O1);rfl;(simp (disch:=omega);exact Rz);exact Rz;(focus (first|(simp;done)|omega|(simp;omega)))))
          refine e_loop (ι:={ x:Nat × Heap // x.1≤(TG s2 s2.gs).length }) (fun x=>[(11,.bool true),(15,lv),(30,.int .i64 er),(302,mv),(303,.int .i64 ((TG s2 s2.gs).length:Nat)),(304,.int .i64 x.1.1)]) (fun x=>Y++x.1.2) (fun x=>(TG s2 s2.gs).length-x.1.1) ⟨(0,[]),by simp⟩ ?_ ?_
          · exact .inl (by simp)
          · rintro⟨⟨i,G⟩,hi⟩
            dsimp only at hi ⊢
            by_cases hlt:i<(TG s2 s2.gs).length
            · have hlt2:(i:Int)<((TG s2 s2.gs).length:Nat):=by omega
              obtain⟨id2,rfl,hid2,hrow2⟩:=hB.tun hlt
              have hr2:=hrow2 i hlt
              have obd2:=o_bd hok2 (g:=tgA s2 i) (by have:=tgA_bd hok2 hlt;omega) s2.ts.length (Nat.le_refl _)
              obtain⟨jj,hjj,hje⟩:∃ j,j<(TG s s.gs).length∧(tgA s2 i=tgA s j∧oLoF s (tgA s j) s.ts.length≤oLoF s2 (tgA s2 i) s2.ts.length∧oHiF s2 (tgA s2 i) s2.ts.length≤oHiF s (tgA s j) s.ts.length):=by
                rw [hs2] at hlt ⊢
                obtain⟨j,hj,he⟩:=more_at hlt
                have:=more_bd s ⟨mw,mn⟩ (tgA s j)
                exact⟨j,hj,he.symm,by rw [← he];exact this⟩
              generalize tgA s2 i=a2 at *
              generalize oLoF s2 a2 s2.ts.length=lo2 at *
              generalize oHiF s2 a2 s2.ts.length=hi2 at *
              repeat (first|(with_reducible first|apply X1|apply X2|apply X5|apply X6|apply X8)|((with_reducible apply e_end);(simp;exact Rz))|((first|((with_reducible apply O1);rfl)|((with_reducible apply O2);rfl));(simp (disch:=omega) [hlt,hlt2,rd_old _ hid2,hr2];exact Rz);exact Rz;(focus (first|(simp;done)|omega|(simp;omega))))|((with_reducible apply Z9);(simp (disch:=omega) [hlt,hlt2,rd_old _ hid2,hr2];exact Rz)))
              (with_reducible apply e_op);rfl;exact hA.l.r.len _ (by simp);exact Rz;trivial
              repeat (first|(with_reducible first|apply X6|apply X8)|((with_reducible apply e_end);(simp;exact Rz))|((with_reducible apply O1);rfl;(simp (disch:=omega);exact Rz);exact Rz;(focus (first|(simp;done)|omega|(simp;omega)))))
              refine e_loop (ι:={ x:Nat × Bool × Heap // x.1≤(TG s s.gs).length∧(x.2.1=true↔∃ j,j<x.1∧(a2=tgA s j∧oLoF s (tgA s j) s.ts.length≤lo2∧hi2≤oHiF s (tgA s j) s.ts.length)) })
                (fun x=>[(11,.bool true),(15,lv),(30,.int .i64 er),(32,.ptr (Y.length+G.length) 0),(33,.bool x.1.2.1),(302,.slice id2 0 (TG s2 s2.gs).length 3 false),(303,.int .i64 ((TG s2 s2.gs).length:Nat)),(304,.int .i64 i),(308,lv),(309,.int .i64 ((TG s s.gs).length:Nat)),(310,.int .i64 x.1.1)])
                (fun x=>Y++(G++.cells [.int .i64 a2,.int .i64 lo2,.int .i64 hi2] true :: x.1.2.2)) (fun x=>(TG s s.gs).length-x.1.1) ⟨(0,false,[]),by simp⟩ ?_ ?_
              · exact .inl (by simp)
              · rintro⟨⟨j,fl,G3⟩,hj,hfl⟩
                dsimp only at hj hfl ⊢
                by_cases hjl:j<(TG s s.gs).length
                · have hjl2:(j:Int)<((TG s s.gs).length:Nat):=by omega
                  obtain⟨id1,rfl,hid1,hrow1⟩:=hA.tun hjl
                  have hr1:=hrow1 j hjl
                  have obd1:=o_bd hs (g:=tgA s j) (by have:=tgA_bd hs hjl;omega) s.ts.length (Nat.le_refl _)
                  have step:∀ c:Bool,(c=true↔fl=true∨(a2=tgA s j∧oLoF s (tgA s j) s.ts.length≤lo2∧hi2≤oHiF s (tgA s j) s.ts.length))→(c=true↔∃ k,k<j+1∧(a2=tgA s k∧oLoF s (tgA s k) s.ts.length≤lo2∧hi2≤oHiF s (tgA s k) s.ts.length)):=fun c hc=>by
                    rw [hc,hfl]
                    constructor
                    · rintro (⟨k,h1,h2⟩|h)
                      · exact⟨k,by omega,h2⟩
                      · exact⟨j,by omega,h⟩
                    · rintro⟨k,h1,h2⟩
                      rcases Nat.lt_or_ge k j with h|h
                      · exact .inl ⟨k,h,h2⟩
                      · obtain rfl:k=j:=by omega
                        exact .inr h2
                  clear hfl
                  generalize tgA s j=a1 at *
                  generalize oLoF s a1 s.ts.length=lo1 at *
                  generalize oHiF s a1 s.ts.length=hi1 at *
                  cases fl with
                  | true =>
                    repeat (first|(with_reducible first|apply X1|apply X2|apply X5|apply X6|apply X8|apply Y2)|((with_reducible apply e_end);(simp;exact Rz))|((first|((with_reducible apply O1);rfl)|((with_reducible apply O2);rfl));(simp (disch:=omega) [hjl,hjl2,rd_old _ hid1,hr1];exact Rz);exact Rz;(focus (first|(simp;done)|omega|(simp;omega))))|((with_reducible apply Z9);(simp (disch:=omega) [hjl,hjl2,rd_old _ hid1,hr1];exact Rz))|((with_reducible apply Z2);(simp (disch:=omega) [hjl,hjl2,rd_old _ hid1,hr1];exact Rz))|((with_reducible apply W1);(simp (disch:=omega) [hjl,hjl2,rd_old _ hid1,hr1];exact Rz)))
                    exact q_again ⟨(j+1,true,G3++[.cells [.int .i64 a1,.int .i64 lo1,.int .i64 hi1] true]),hjl,step true (by simp)⟩ (by dsimp only;omega) (.inl (by simp))
                  | false =>
                    by_cases p1:a2=a1
                    · by_cases p2:lo1≤lo2
                      · by_cases p3:hi2≤hi1
                        · repeat (first|(with_reducible first|apply X1|apply X2|apply X5|apply X6|apply X8|apply Y2)|((with_reducible apply e_end);(simp;exact Rz))|((first|((with_reducible apply O1);rfl)|((with_reducible apply O2);rfl));(simp (disch:=omega) [hjl,hjl2,rd_old _ hid1,hr1,p1,p2,p3];exact Rz);exact Rz;(focus (first|(simp;done)|omega|(simp;omega))))|((with_reducible first|apply Z7|apply Z9);(simp (disch:=omega) [hjl,hjl2,rd_old _ hid1,hr1,p1,p2,p3];exact Rz)))
                          exact q_again ⟨(j+1,true,G3++[.cells [.int .i64 a1,.int .i64 lo1,.int .i64 hi1] true]),hjl,step true (by simp [p1,p2,p3])⟩ (by dsimp only;omega) (.inl (by simp [p1]))
                        · repeat (first|(with_reducible first|apply X1|apply X2|apply X5|apply X6|apply X8|apply Y2)|((with_reducible apply e_end);(simp;exact Rz))|((first|((with_reducible apply O1);rfl)|((with_reducible apply O2);rfl));(simp (disch:=omega) [hjl,hjl2,rd_old _ hid1,hr1,p1,p2,p3];exact Rz);exact Rz;(focus (first|(simp;done)|omega|(simp;omega))))|((with_reducible first|apply Z7|apply Z9);(simp (disch:=omega) [hjl,hjl2,rd_old _ hid1,hr1,p1,p2,p3];exact Rz)))
                          exact q_again ⟨(j+1,false,G3++[.cells [.int .i64 a1,.int .i64 lo1,.int .i64 hi1] true]),hjl,step false (by simp [p3])⟩ (by dsimp only;omega) (.inl (by simp [p1]))
                      · repeat (first|(with_reducible first|apply X1|apply X2|apply X5|apply X6|apply X8|apply Y2)|((with_reducible apply e_end);(simp;exact Rz))|((first|((with_reducible apply O1);rfl)|((with_reducible apply O2);rfl));(simp (disch:=omega) [hjl,hjl2,rd_old _ hid1,hr1,p1,p2];exact Rz);exact Rz;(focus (first|(simp;done)|omega|(simp;omega))))|((with_reducible first|apply Z7|apply Z9);(simp (disch:=omega) [hjl,hjl2,rd_old _ hid1,hr1,p1,p2];exact Rz))|((with_reducible apply Z1);(simp (disch:=omega) [hjl,hjl2,rd_old _ hid1,hr1,p1,p2];exact Rz)))
                        exact q_again ⟨(j+1,false,G3++[.cells [.int .i64 a1,.int .i64 lo1,.int .i64 hi1] true]),hjl,step false (by simp [p2])⟩ (by dsimp only;omega) (.inl (by simp [p1]))
                    · repeat (first|(with_reducible first|apply X1|apply X2|apply X5|apply X6|apply X8|apply Y2)|((with_reducible apply e_end);(simp;exact Rz))|((first|((with_reducible apply O1);rfl)|((with_reducible apply O2);rfl));(simp (disch:=omega) [hjl,hjl2,rd_old _ hid1,hr1,p1];exact Rz);exact Rz;(focus (first|(simp;done)|omega|(simp;omega))))|((with_reducible first|apply Z7|apply Z9);(simp (disch:=omega) [hjl,hjl2,rd_old _ hid1,hr1,p1];exact Rz))|((with_reducible apply Z1);(simp (disch:=omega) [hjl,hjl2,rd_old _ hid1,hr1,p1];exact Rz)))
                      exact q_again ⟨(j+1,false,G3++[.cells [.int .i64 a1,.int .i64 lo1,.int .i64 hi1] true]),hjl,step false (by simp [p1])⟩ (by dsimp only;omega) (.inl (by simp))
                · have hjl2:¬ (j:Int)<((TG s s.gs).length:Nat):=by omega
                  obtain rfl:fl=true:=hfl.2 ⟨jj,by omega,hje⟩
                  repeat (first|(with_reducible first|apply X1|apply X2|apply X4|apply X5|apply X8|apply Y1|apply Y2|apply Y4|apply Y6)|((with_reducible apply e_end);(simp;exact Rz))|((with_reducible apply O1);rfl;(simp (disch:=omega) [hjl,hjl2];exact Rz);exact Rz;(focus (first|(simp;done)|omega|(simp;omega))))|((with_reducible apply W3);(simp (disch:=omega) [hjl,hjl2];exact Rz)))
                  exact q_again ⟨(i+1,G++.cells [.int .i64 a2,.int .i64 lo2,.int .i64 hi2] true :: G3),hlt⟩ (by dsimp only;omega) (.inl (by simp))
            · have hlt2:¬ (i:Int)<((TG s2 s2.gs).length:Nat):=by omega
              rcases (show er=0∨er=6 by rw [her];split <;> simp) with rfl|rfl
              · repeat (first|(with_reducible first|apply X1|apply X2|apply X3|apply X4|apply X8|apply Y1|apply Y4|apply Y6)|((with_reducible apply e_end);(simp;exact Rz))|((with_reducible apply O1);rfl;(simp (disch:=omega) [hlt,hlt2];exact Rz);exact Rz;(focus (first|(simp;done)|omega|(simp;omega))))|((with_reducible apply Z7);(simp (disch:=omega) [hlt,hlt2];exact Rz))|((with_reducible apply Z2);(simp (disch:=omega) [hlt,hlt2];exact Rz))|((with_reducible apply W3);(simp (disch:=omega) [hlt,hlt2];exact Rz)))
                exact q_stay (.inr rfl) (by simp;exact Rz) rfl
              · repeat (first|(with_reducible first|apply X1|apply X2|apply X3|apply X4|apply X8|apply Y1|apply Y4|apply Y6)|((with_reducible apply e_end);(simp;exact Rz))|((with_reducible apply O1);rfl;(simp (disch:=omega) [hlt,hlt2];exact Rz);exact Rz;(focus (first|(simp;done)|omega|(simp;omega))))|((with_reducible apply Z7);(simp (disch:=omega) [hlt,hlt2];exact Rz))|((with_reducible apply W3);(simp (disch:=omega) [hlt,hlt2];exact Rz)))
                exact q_stay (.inr rfl) (by simp;exact Rz) rfl
end Go.Proofs
