/- Several texts as one. -/
import Derived.Test.YtdocpfbfchaekaaGreatSE
/- Scale: together. -/
namespace Go.Proofs
open Go.Abs
attribute [local simp] AOp.den AOpd.ev lk cellsOf rd_new rd_new0 rd_zero rd_succ wr_new wr_new0 wr_zero wr_succ splice fillA binA scal sliceCells List.length_append argsT AV.sc scL AObj.sc resV getAll AR.get AOp.slots opdSlots opdsSlots partSlots eqAt at_new0 at_new set_new0 set_new wrap64
set_option linter.unusedSimpArgs false
set_option linter.unusedVariables false
theorem avL_put {f g:Nat→Int} {n i:Nat} {x:Int} (hi:i<n) (hg:∀ j,g j=if j=i then x else f j):Go.Abs.splice (avL f n) i [.int .i64 x]=avL g n:=by
  apply List.ext_getElem
  · simp [Go.Abs.splice,avL_length];omega
  · intro k h1 h2
    simp only [Go.Abs.splice,List.length_cons,List.length_nil]
    rw [avL_length] at h2
    have e:∀ (f:Nat→Int) (h:k<(avL f n).length),(avL f n)[k]=.int .i64 (f k):=fun f h=>by simp [avL]
    rw [e g]
    rcases Nat.lt_trichotomy k i with h3|h3|h3
    · rw [List.getElem_append_left (by simp [avL_length];omega),List.getElem_append_left (by simp [avL_length];omega),List.getElem_take,e f,hg,if_neg (by omega)]
    · subst h3
      rw [List.getElem_append_left (by simp [avL_length];omega),List.getElem_append_right (by simp [avL_length];omega)]
      simp [avL_length,hg]
    · rw [List.getElem_append_right (by simp [avL_length];omega),List.getElem_drop]
      have:i+1+(k-((avL f n).take i++[AV.int .i64 x]).length)=k:=by simp [avL_length];omega
      simp only [this,e f,hg,if_neg (show ¬ k=i by omega)]
theorem avL_one {f:Nat→Int} {n i:Nat} (hi:i<n):((avL f n).drop i).take 1=[.int .i64 (f i)]:=by
  have e:(avL f n).drop i=.int .i64 (f i) :: (avL f n).drop (i+1):=by
    rw [List.drop_eq_getElem_cons (by rw [avL_length];omega)];congr 1;simp [avL]
  rw [e];rfl
theorem c_ofT (H:Heap) (s:Sc) (ns:List Int) (x:Int × Int):ACalls Try.prog F.scale_weighing_totals_1_1 [.agg (rowT s ns x)] H (fun v h'=>v=.agg [.int .i64 (smP s ns x).1,.int .i64 (smP s ns x).2]∧h'=H):=by
  simp only [rowT]
  refine acalls_of ok_scale_weighing_totals_1_1 rfl fun hcl=>?_
  unfold ac_scale_weighing_totals_1_1 zo
  simp only [argsT,Nat.zero_add,Nat.reduceAdd]
  repeat (first|(with_reducible first|apply X1|apply X2|apply X3|apply X8)|((with_reducible apply e_end);(simp;exact Rz))|((first|((with_reducible apply O1);rfl)|((with_reducible apply O2);rfl));(simp (disch:=omega);exact Rz);exact Rz;(focus (first|(simp;done)|omega|(simp;omega)))))
  refine q_drop (.inr rfl) (by simp;exact Rz) (by simp) ⟨rfl,rfl⟩
def idP (x:Int × Int):Int × Int:=x
theorem map_idP (L:List (Int × Int)):L.map idP=L:=by
  have:idP=id:=rfl
  rw [this,List.map_id]
theorem c_ofS (H:Heap) (x:Int × Int):ACalls Try.prog F.scale_weighing_totals_1_2 [.agg (pv x)] H (fun v h'=>v=.agg [.int .i64 (idP x).1,.int .i64 (idP x).2]∧h'=H):=by
  simp only [pv,idP]
  refine acalls_of ok_scale_weighing_totals_1_2 rfl fun hcl=>?_
  unfold ac_scale_weighing_totals_1_2 zo
  simp only [argsT,Nat.zero_add,Nat.reduceAdd]
  repeat (first|(with_reducible first|apply X1|apply X2|apply X3|apply X8)|((with_reducible apply e_end);(simp;exact Rz))|((first|((with_reducible apply O1);rfl)|((with_reducible apply O2);rfl));(simp (disch:=omega);exact Rz);exact Rz;(focus (first|(simp;done)|omega|(simp;omega)))))
  refine q_drop (.inr rfl) (by simp;exact Rz) (by simp) ⟨rfl,rfl⟩
theorem den_mk0 {ev:AOpd→AV} {x:AOpd} {h:Heap} {m:Int} (hx:ev x=.int .i64 m):(AOp.makeSl [.int .i64 0] 1 8 x x).den ev h=.ok (0≤m∧m≤m∧(8:Int) * m≤281474976710656∧m≤9223372036854775807) (.slice h.length 0 m.toNat 1 true) (h++[.cells (avL (fun _=>0) m.toNat) true]):=by
  have e:(List.replicate m.toNat [AV.int .i64 0]).flatten=avL (fun _=>0) m.toNat:=by
    apply List.ext_getElem
    · simp [avL]
    · intro i h1 h2;simp [avL]
  simp only [AOp.den,hx,e,decide_true]
  rfl
set_option maxHeartbeats 8000000 in
theorem c_togT (H:Heap) (s:Sc) (ns:List Int) (L B:List (Int × Int)) (tv ov:AV) (hT:RAt H 4 tv (L.flatMap (rowT s ns)) L.length) (hO:RAt H 2 ov (pvs B) B.length) (hA:∀ x∈L,0≤(smP s ns x).1∧(smP s ns x).1≤(smP s ns x).2∧(smP s ns x).2≤100000000) (hLl:L.length≤10000000) (hB:Cano B) (hBb:∀ b∈B,0≤b.1∧b.2≤100000000) (hBl:B.length≤1000000000) :
    ACalls Try.prog F.scale_together_scale_truth [tv,ov,.fn (.func F.scale_weighing_totals_1_1) [] []] H (fun v h'=>v=lsV H 2 (togL (L.map (smP s ns)) B).length∧h'=H++lsO (togL (L.map (smP s ns)) B).length (pvs (togL (L.map (smP s ns)) B))):=by
  have sT:∀ m,tv.sc (H.length+m)=true:=fun m=>hT.sc (by omega)
  have sO:∀ m,ov.sc (H.length+m)=true:=fun m=>hO.sc (by omega)
  have sT0:=sT 0
  have sO0:=sO 0
  rw [Nat.add_zero] at sT0 sO0
  refine acalls_of ok_scale_together_scale_truth rfl fun hcl=>?_
  unfold ac_scale_together_scale_truth zo
  simp only [argsT,Nat.zero_add,Nat.reduceAdd]
  repeat (first|(with_reducible first|apply X1|apply X2|apply X8)|((with_reducible apply e_end);(simp;exact Rz))|((with_reducible apply O1);rfl;(simp (disch:=omega);exact Rz);exact Rz;(focus (first|(simp;done)|omega|(simp;omega)))))
  refine O1 rfl (RAt.len hT _ (by simp)) Rz trivial ?_
  by_cases hL0:L.length=0
  · have e:togL (L.map (smP s ns)) B=[]:=by
      have:L=[]:=List.eq_nil_of_length_eq_zero hL0
      subst this;rfl
    repeat (first|(with_reducible first|apply X1|apply X2|apply X3|apply X8|apply X9)|((with_reducible apply e_end);(simp;exact Rz))|((with_reducible apply O1);rfl;(simp (disch:=omega) [hL0];exact Rz);exact Rz;(focus (first|(simp;done)|omega|(simp;omega))))|((with_reducible apply Z9);(simp (disch:=omega) [hL0];exact Rz))|((with_reducible apply Z2);(simp (disch:=omega) [hL0];exact Rz)))
    rw [e]
    exact q_stay (.inr rfl) (by simp;exact Rz) ⟨rfl,(List.append_nil _).symm⟩
  repeat (first|((with_reducible apply O1);rfl;(simp (disch:=omega) [hL0];exact Rz);exact Rz;(focus (first|(simp;done)|omega|(simp;omega))))|((with_reducible apply Z7);(simp (disch:=omega) [hL0];exact Rz)))
  refine O1 rfl (RAt.len hO _ (by simp)) Rz trivial ?_
  by_cases hB0:B.length=0
  · have e:togL (L.map (smP s ns)) B=[]:=by
      have:B=[]:=List.eq_nil_of_length_eq_zero hB0
      subst this;simp [togL]
    repeat (first|(with_reducible first|apply X1|apply X2|apply X3|apply X8|apply X9)|((with_reducible apply e_end);(simp;exact Rz))|((with_reducible apply O1);rfl;(simp (disch:=omega) [hB0];exact Rz);exact Rz;(focus (first|(simp;done)|omega|(simp;omega))))|((with_reducible first|apply Z7|apply Z9);(simp (disch:=omega) [hB0];exact Rz)))
    rw [e]
    exact q_stay (.inr rfl) (by simp;exact Rz) ⟨rfl,(List.append_nil _).symm⟩
  obtain⟨tid,toff,tex,rfl,hTr⟩:=hT.slice (by omega)
  obtain⟨oid,ooff,oex,rfl,hOr⟩:=hO.slice (by omega)
  have tidl:=rd_lt hTr
  have oidl:=rd_lt hOr
  have hrow:∀ i,i<L.length→rd H tid (toff+i * 4) 4=some ((rowT s ns) (gP L i)):=fun i hi=>by
    have:=rd_row (f:=(rowT s ns)) (k:=4) (fun _=>rfl) hTr hi
    rw [gP_eq hi];exact this
  have horow:∀ i,i<B.length→rd H oid (ooff+i * 2) 2=some (pv (gP B i)):=fun i hi=>by
    have:=rd_row (f:=pv) (k:=2) (fun _=>rfl) hOr hi
    rw [gP_eq hi];exact this
  have hgA:∀ i,i<L.length→gP (L.map (smP s ns)) i=smP s ns (gP L i):=fun i hi=>by simp [gP,hi]
  have hAb:∀ x∈L.map (smP s ns),0≤x.1∧x.1≤x.2∧x.2≤100000000:=fun x hx=>by
    obtain⟨y,hy,rfl⟩:=List.mem_map.1 hx
    exact hA y hy
  have hA0:L.map (smP s ns)≠[]:=by simp;exact fun h=>hL0 (by rw [h];rfl)
  have hmn:=fun n (hn:n≤L.length)=>mn_bd (a:=0) (b:=100000000) hAb hA0 (n:=n) (by simpa using hn)
  have kof:=fun X (x:Int × Int)=>c_ofT X s ns x
  have r0:=hrow 0 (by omega)
  rw [Nat.zero_mul,Nat.add_zero] at r0
  have g0:=hgA 0 (by omega)
  have hmul0:4≤L.length * 4:=by omega
  simp only [rowT] at r0 hrow kof
  repeat (first|(with_reducible first|apply X1|apply X2|apply X5|apply X8)|((with_reducible apply e_end);(simp;exact Rz))|((with_reducible apply O1);rfl;(simp (disch:=omega) [hB0,rd_old _ tidl,r0,hL0,show 0<L.length by omega];exact Rz);exact Rz;(focus (first|(simp;done)|omega|(simp;omega))))|((with_reducible apply Z7);(simp (disch:=omega) [hB0,rd_old _ tidl,r0,hL0,show 0<L.length by omega];exact Rz))|((with_reducible apply W3);(simp (disch:=omega) [hB0,rd_old _ tidl,r0,hL0,show 0<L.length by omega];exact Rz)))
  (with_reducible apply e_callV);(simp;exact Rz);(simp;exact Rz);exact kof _ _
  rintro _ hqh ⟨rfl,hqe⟩
  rw [hqe];clear hqe hqh
  repeat (first|(with_reducible first|apply X1|apply X2|apply X6|apply X8)|((with_reducible apply e_end);(simp;exact Rz))|((first|((with_reducible apply O1);rfl)|((with_reducible apply O2);rfl));(simp (disch:=omega);exact Rz);exact Rz;(focus (first|(simp;done)|omega|(simp;omega)))))
  refine e_loop (ι:={ x:Nat × Heap // x.1≤L.length })
    (fun x=>[(0,.slice tid toff L.length 4 tex),(1,.slice oid ooff B.length 2 oex),(2,.fn (.func F.scale_weighing_totals_1_1) [] []),(7,.ptr H.length 0),(30,.slice tid toff L.length 4 tex),(31,.int .i64 L.length),(32,.int .i64 x.1.1)])
    (fun x=>H++.cells [.int .i64 (mnL (L.map (smP s ns)) x.1.1),.int .i64 (mxL (L.map (smP s ns)) x.1.1)] true :: x.1.2) (fun x=>L.length-x.1.1) ⟨(0,[]),by simp⟩ ?_ ?_
  · exact .inl (by simp [mnL,mxL,g0])
  · rintro⟨⟨i,G⟩,hi⟩
    dsimp only at hi ⊢
    by_cases hlt:i<L.length
    · have hlt2:(i:Int)<L.length:=by omega
      have hx:=hrow i hlt
      have hm0:i * 4+4≤L.length * 4:=by omega
      have e1:mnL (L.map (smP s ns)) (i+1)=(if (smP s ns (gP L i)).1<mnL (L.map (smP s ns)) i then (smP s ns (gP L i)).1 else mnL (L.map (smP s ns)) i):=by
        simp only [mnL,hgA i hlt];split <;> omega
      have e2:mxL (L.map (smP s ns)) (i+1)=(if mxL (L.map (smP s ns)) i<(smP s ns (gP L i)).2 then (smP s ns (gP L i)).2 else mxL (L.map (smP s ns)) i):=by
        simp only [mxL,hgA i hlt];split <;> omega
      repeat (first|(with_reducible first|apply X1|apply X2|apply X5|apply X6|apply X8)|((with_reducible apply e_end);(simp;exact Rz))|((first|((with_reducible apply O1);rfl)|((with_reducible apply O2);rfl));(simp (disch:=omega) [hlt,hlt2,rd_old _ tidl,hx];exact Rz);exact Rz;(focus (first|(simp;done)|omega|(simp;omega))))|((with_reducible apply Z9);(simp (disch:=omega) [hlt,hlt2,rd_old _ tidl,hx];exact Rz)))
      (with_reducible apply e_callV);(simp;exact Rz);(simp;exact Rz);exact kof _ _
      rintro _ _ ⟨rfl,rfl⟩
      repeat (first|(with_reducible first|apply X2|apply X8|apply Y2)|((with_reducible apply e_end);(simp;exact Rz))|((first|((with_reducible apply O1);rfl)|((with_reducible apply O2);rfl));(simp (disch:=omega);exact Rz);exact Rz;(focus (first|(simp;done)|omega|(simp;omega)))))
      exact q_again ⟨(i+1,_),hlt⟩ (by dsimp only;omega) (.inl (by simp [e1,e2];rfl))
    · have hlt2:¬ (i:Int)<L.length:=by omega
      obtain rfl:i=L.length:=by omega
      have hB1:(0:Int)≤(B.length:Int)-1:=by omega
      have hB2:(B.length:Int)-1<B.length:=by omega
      have hB3:((B.length:Int)-1).toNat=B.length-1:=by omega
      have o1:=horow 0 (by omega)
      have o2:=horow (B.length-1) (by omega)
      simp only [pv] at o1 o2
      have o11:rd H oid ooff 1=some [.int .i64 (gP B 0).1]:=by have:=rd_sub' o1 0 1 (by omega);simpa using this
      have o22:rd H oid (ooff+(B.length-1) * 2+1) 1=some [.int .i64 (gP B (B.length-1)).2]:=by have:=rd_sub' o2 1 1 (by omega);simpa using this
      have hm:=hmn L.length (Nat.le_refl _)
      have b1:=hBb _ (gP_mem (A:=B) (i:=0) (by omega))
      have b2:=hBb _ (gP_mem (A:=B) (i:=B.length-1) (by omega))
      have b3:=hB.le _ (gP_mem (A:=B) (i:=0) (by omega))
      have b4:=hB.le _ (gP_mem (A:=B) (i:=B.length-1) (by omega))
      repeat (first|(with_reducible first|apply X1|apply X2|apply X4|apply X8|apply Y1|apply Y4|apply Y6|apply Y9)|((with_reducible apply e_end);(simp;exact Rz))|((first|((with_reducible apply O1);rfl)|((with_reducible apply P1);rfl)|((with_reducible apply P2);rfl));(simp (disch:=omega) [hlt,hlt2,rd_old _ oidl,o11,o22,hB1,hB2,hB3,show 0<B.length by omega];exact Rz);exact Rz;(focus (first|(simp;done)|omega|(simp;omega))))|((with_reducible apply W3);(simp (disch:=omega) [hlt,hlt2,rd_old _ oidl,o11,o22,hB1,hB2,hB3,show 0<B.length by omega];exact Rz)))
      (with_reducible apply d_call);(simp;exact Rz);exact c_plus _ _ _ _ _ (by omega) (by omega) (by omega) (by omega);(focus (first|(simp;done)|(simp;omega)))
      repeat (first|(with_reducible first|apply X1|apply X2|apply X8)|((with_reducible apply d_end);(simp;exact Rz))|((first|((with_reducible apply O1);rfl)|((with_reducible apply P4);rfl));(simp (disch:=omega);exact Rz);exact Rz;(focus (first|(simp;done)|omega|(simp;omega)))))
      have hF:mnL (L.map (smP s ns)) L.length+(gP B 0).1=toF (L.map (smP s ns)) B:=by simp [toF]
      have hTo:mxL (L.map (smP s ns)) L.length+(gP B (B.length-1)).2=toT (L.map (smP s ns)) B:=by simp [toT]
      have hFb:0≤toF (L.map (smP s ns)) B∧toF (L.map (smP s ns)) B≤toT (L.map (smP s ns)) B∧toT (L.map (smP s ns)) B≤200000000:=by
        have b5:(gP B 0).1≤(gP B (B.length-1)).2:=Int.le_trans (hB.ends (gP_mem (A:=B) (i:=B.length-1) (by omega))).1 b4
        rw [← hF,← hTo];omega
      have hNd:(toT (L.map (smP s ns)) B-toF (L.map (smP s ns)) B+2).toNat=toN (L.map (smP s ns)) B:=rfl
      rw [hF,hTo]
      refine O1 rfl (den_mk0 (m:=toT (L.map (smP s ns)) B-toF (L.map (smP s ns)) B+2) (by simp)) Rz ⟨by omega,by omega,by omega,by omega⟩ ?_
      rw [hNd]
      have hAle:∀ a∈L.map (smP s ns),a.1≤a.2:=fun a ha=>(hAb a ha).2.1
      have hprl:=prs_lt hAle hB
      have hend:(ruS (fun i=>decide (0<cn (prs (toF (L.map (smP s ns)) B) (L.map (smP s ns)) B) i)) (toN (L.map (smP s ns)) B)).2=none:=to_end hAle hB
      have hres:togL (L.map (smP s ns)) B=ruL (fun i=>decide (0<cn (prs (toF (L.map (smP s ns)) B) (L.map (smP s ns)) B) i)) (toN (L.map (smP s ns)) B) (toF (L.map (smP s ns)) B):=by
        unfold togL;rw [if_neg (fun h=>by rcases h with h|h;exact hA0 h;exact hB0 (by rw [h];rfl))];rfl
      have hpl:=prs_len (toF (L.map (smP s ns)) B) (L.map (smP s ns)) B
      have hprA:=fun a b ha hb=>pr_at hAle hB (a:=a) (b:=b) ha hb
      have hNe:(toN (L.map (smP s ns)) B:Int)=toT (L.map (smP s ns)) B-toF (L.map (smP s ns)) B+2:=by simp only [toN];omega
      have hAlen:(L.map (smP s ns)).length=L.length:=by simp
      have hgm:∀ i,i<L.length→smP s ns (gP L i)∈L.map (smP s ns):=fun i hi=>List.mem_map.2 ⟨_,gP_mem hi,rfl⟩
      clear hF hTo hmn hm g0 hNd
      generalize hAe:L.map (smP s ns)=A at *
      generalize hfe:toF A B=f at *
      generalize hte:toT A B=t at *
      generalize hNn:toN A B=N at *
      repeat (first|(with_reducible first|apply X1|apply X2|apply X6|apply X8)|((with_reducible apply e_end);(simp;exact Rz))|((with_reducible apply O1);rfl;(simp (disch:=omega);exact Rz);exact Rz;(focus (first|(simp;done)|omega|(simp;omega)))))
      have hAB:A.length * B.length≤10000000 * 1000000000:=Nat.mul_le_mul (by omega) hBl
      refine e_loop (ι:={ x:Nat × Heap // x.1≤L.length })
        (fun x=>[(1,.slice oid ooff B.length 2 oex),(2,.fn (.func F.scale_weighing_totals_1_1) [] []),(7,.ptr H.length 0),(11,.slice (H.length+(G.length+1)) 0 N 1 true),(72,.slice tid toff L.length 4 tex),(73,.int .i64 L.length),(74,.int .i64 x.1.1)])
        (fun x=>H++.cells [.int .i64 f,.int .i64 t] true :: (G++.cells (avL (dl (PP f A B x.1.1 0)) N) true :: x.1.2)) (fun x=>L.length-x.1.1) ⟨(0,[]),by simp⟩ ?_ ?_
      · refine .inl ?_
        have e:avL (fun _=>0) N=avL (dl (PP f A B 0 0)) N:=by rw [PP_zero];rfl
        simp [e]
      · rintro⟨⟨k,G2⟩,hk⟩
        dsimp only at hk ⊢
        by_cases hkl:k<L.length
        · have hkl2:(k:Int)<L.length:=by omega
          have hx:=hrow k hkl
          have hm0:k * 4+4≤L.length * 4:=by omega
          repeat (first|(with_reducible first|apply X1|apply X2|apply X5|apply X6|apply X8)|((with_reducible apply e_end);(simp;exact Rz))|((first|((with_reducible apply O1);rfl)|((with_reducible apply O2);rfl));(simp (disch:=omega) [hkl,hkl2,rd_old _ tidl,hx];exact Rz);exact Rz;(focus (first|(simp;done)|omega|(simp;omega))))|((with_reducible apply Z9);(simp (disch:=omega) [hkl,hkl2,rd_old _ tidl,hx];exact Rz)))
          (with_reducible apply e_callV);(simp;exact Rz);(simp;exact Rz);exact kof _ _
          rintro _ _ ⟨rfl,rfl⟩
          repeat (first|(with_reducible first|apply X1|apply X2|apply X6|apply X8)|((with_reducible apply e_end);(simp;exact Rz))|((first|((with_reducible apply O1);rfl)|((with_reducible apply O2);rfl));(simp (disch:=omega);exact Rz);exact Rz;(focus (first|(simp;done)|omega|(simp;omega)))))
          have hrowL:smP s ns (gP L k)=gP A k:=(hgA k hkl).symm
          rw [hrowL]
          have hak:=hAb _ (gP_mem (A:=A) (i:=k) (by omega))
          refine e_loop (ι:={ x:Nat × Heap // x.1≤B.length })
            (fun x=>[(1,.slice oid ooff B.length 2 oex),(2,.fn (.func F.scale_weighing_totals_1_1) [] []),(7,.ptr H.length 0),(11,.slice (H.length+(G.length+1)) 0 N 1 true),(14,.ptr (H.length+(G.length+(G2.length+1+1)+1)) 0),(72,.slice tid toff L.length 4 tex),(73,.int .i64 L.length),(74,.int .i64 k),(81,.slice oid ooff B.length 2 oex),(82,.int .i64 B.length),(83,.int .i64 x.1.1)])
            (fun x=>H++.cells [.int .i64 f,.int .i64 t] true :: (G++.cells (avL (dl (PP f A B k x.1.1)) N) true :: (G2++.cells [.int .i64 (gP L k).1,.int .i64 (gP L k).2,.int .i64 (gP A k).1,.int .i64 (gP A k).2] true :: .cells [.int .i64 (gP A k).1,.int .i64 (gP A k).2] true :: x.1.2))) (fun x=>B.length-x.1.1) ⟨(0,[]),by simp⟩ ?_ ?_
          · exact .inl (by simp)
          · rintro⟨⟨m,G3⟩,hm⟩
            dsimp only at hm ⊢
            by_cases hml:m<B.length
            · have hml2:(m:Int)<B.length:=by omega
              have hox:=horow m hml
              simp only [pv] at hox
              have hm1:m * 2+2≤B.length * 2:=by omega
              have hp:=hprA _ _ (gP_mem (A:=A) (i:=k) (by omega)) (gP_mem hml)
              have pl:=PP_len f A B k m
              have db1:=dl_bd (PP f A B k m) ((gP A k).1+(gP B m).1-f).toNat
              have db2:=dl_bd (PP f A B k m) ((gP A k).2+(gP B m).2+1-f).toNat
              have hx1:((gP A k).1+(gP B m).1-f).toNat<N:=by omega
              have hy1:((gP A k).2+(gP B m).2+1-f).toNat<N:=by omega
              have hxy:((gP A k).1+(gP B m).1-f).toNat≠((gP A k).2+(gP B m).2+1-f).toNat:=by omega
              have hx0:(0:Int)≤(gP A k).1+(gP B m).1-f:=by omega
              have hxN:(gP A k).1+(gP B m).1-f<N:=by omega
              have hy0:(0:Int)≤(gP A k).2+(gP B m).2+1-f:=by omega
              have hyN:(gP A k).2+(gP B m).2+1-f<N:=by omega
              have hnx:=dl_snoc (PP f A B k m) hxy
              rw [← PP_succ f A B k hml] at hnx
              generalize hxe:((gP A k).1+(gP B m).1-f).toNat=x at *
              generalize hye:((gP A k).2+(gP B m).2+1-f).toNat=y at *
              obtain⟨D2,hD2⟩:∃ D,D=dl (PP f A B k (m+1)):=⟨_,rfl⟩
              rw [← hD2] at hnx
              generalize dl (PP f A B k m)=D at *
              obtain⟨D1,hD1⟩:∃ g:Nat→Int,g=fun j=>if j=x then D j+1 else D j:=⟨_,rfl⟩
              have hx2:x+1≤N:=hx1
              have hy2:y+1≤N:=hy1
              have o1:=avL_one (f:=D) hx1
              have q1:∀ j,D1 j=if j=x then D x+1 else D j:=by
                intro j
                rw [hD1];dsimp only
                by_cases hj:j=x
                · rw [if_pos hj,if_pos hj,hj]
                · rw [if_neg hj,if_neg hj]
              have p1:List.take x (avL D N)++AV.int .i64 (D x+1) :: List.drop (x+1) (avL D N)=avL D1 N:=by
                have:=avL_put (f:=D) (g:=D1) (x:=D x+1) hx1 q1
                simpa [splice] using this
              have hyx:¬ y=x:=fun e=>hxy e.symm
              have o2:=avL_one (f:=D1) hy1
              have hD1y:D1 y=D y:=by rw [hD1];dsimp only;rw [if_neg hyx]
              rw [hD1y] at o2
              have q2:∀ j,D2 j=if j=y then D y-1 else D1 j:=by
                intro j
                rw [hnx j,if_neg hyx,hD1]
              have p2:List.take y (avL D1 N)++AV.int .i64 (D y-1) :: List.drop (y+1) (avL D1 N)=avL D2 N:=by
                have:=avL_put (f:=D1) (g:=D2) (x:=D y-1) hy1 q2
                simpa [splice] using this
              clear hD1 hnx hD1y q1 q2
              repeat (first|(with_reducible first|apply X1|apply X2|apply X5|apply X6|apply X8|apply Y2)|((with_reducible apply e_end);(simp;exact Rz))|((first|((with_reducible apply O1);rfl)|((with_reducible apply O2);rfl));(simp (disch:=omega) [hml,hml2,rd_old _ oidl,hox,hx0,hxN,hy0,hyN,hxe,hye,avL_length,o1,p1,o2,p2,hx1,hy1,hx2,hy2];exact Rz);exact Rz;(focus (first|(simp;done)|omega|(simp;omega))))|((with_reducible apply Z9);(simp (disch:=omega) [hml,hml2,rd_old _ oidl,hox,hx0,hxN,hy0,hyN,hxe,hye,avL_length,o1,p1,o2,p2,hx1,hy1,hx2,hy2];exact Rz)))
              subst hD2
              exact q_again ⟨(m+1,_),hml⟩ (by dsimp only;omega) (.inl (by simp;rfl))
            · have hml2:¬ (m:Int)<B.length:=by omega
              obtain rfl:m=B.length:=by omega
              rw [PP_row f A B (by omega)]
              repeat (first|(with_reducible first|apply X1|apply X2|apply X4|apply X8|apply Y1|apply Y2|apply Y4|apply Y6)|((with_reducible apply e_end);(simp;exact Rz))|((with_reducible apply O1);rfl;(simp (disch:=omega) [hml,hml2];exact Rz);exact Rz;(focus (first|(simp;done)|omega|(simp;omega))))|((with_reducible apply W3);(simp (disch:=omega) [hml,hml2];exact Rz)))
              exact q_again ⟨(k+1,_),hkl⟩ (by dsimp only;omega) (.inl (by simp;rfl))
        · have hkl2:¬ (k:Int)<L.length:=by omega
          obtain rfl:k=L.length:=by omega
          rw [← hAlen,PP_end]
          simp only [hAlen]
          repeat (first|(with_reducible first|apply X1|apply X2|apply X4|apply X8|apply Y1|apply Y4|apply Y6)|((with_reducible apply e_end);(simp;exact Rz))|((with_reducible apply O1);rfl;(simp (disch:=omega) [hkl,hkl2];exact Rz);exact Rz;(focus (first|(simp;done)|omega|(simp;omega))))|((with_reducible apply W3);(simp (disch:=omega) [hkl,hkl2];exact Rz)))
          have hb0:=fun i=>cn_bd (prs f A B) i
          have hlt:=fun x hx=>(hprl x hx).1
          have kc:=c_covered (H++.cells [.int .i64 f,.int .i64 t] true :: (G++.cells (avL (dl (prs f A B)) N) true :: G2)) (H.length+(G.length+1)) N true (dl (prs f A B)) (cn (prs f A B)) f (by simp) (by omega) (cn_zero hlt) (cn_succ hlt) (fun i=>by
            have:=cn_bd (prs f A B) i
            rw [hpl] at this
            omega) (by omega) hend
          (with_reducible apply e_call);(simp;exact Rz);exact kc
          rintro _ _ ⟨rfl,rfl⟩
          rw [← hres]
          have hat:=ls_at (H++.cells [.int .i64 f,.int .i64 t] true :: (G++.cells (avL (dl (prs f A B)) N) true :: G2)) (pvs_len (togL A B))
          have hids:∀ i,isId (lsV (H++.cells [.int .i64 f,.int .i64 t] true :: (G++.cells (avL (dl (prs f A B)) N) true :: G2)) 2 (togL A B).length) i→H.length≤i:=fun i hi=>by
            unfold lsV at hi
            split at hi
            · exact hi.elim
            · have:(H++.cells [.int .i64 f,.int .i64 t] true :: (G++.cells (avL (dl (prs f A B)) N) true :: G2)).length=i:=hi
              simp at this;omega
          have hsc:=ls_sc (H++.cells [.int .i64 f,.int .i64 t] true :: (G++.cells (avL (dl (prs f A B)) N) true :: G2)) 2 (togL A B).length (pvs (togL A B))
          generalize lsV (H++.cells [.int .i64 f,.int .i64 t] true :: (G++.cells (avL (dl (prs f A B)) N) true :: G2)) 2 (togL A B).length=rv at *
          rw [List.append_assoc] at hat ⊢
          generalize (.cells [.int .i64 f,.int .i64 t] true :: (G++.cells (avL (dl (prs f A B)) N) true :: G2))++lsO (togL A B).length (pvs (togL A B))=GG at *
          repeat (first|(with_reducible first|apply X3|apply X8)|((with_reducible apply e_end);(simp;exact Rz))|((with_reducible apply O1);rfl;(simp (disch:=omega);exact Rz);exact Rz;(focus (first|(simp;done)|omega|(simp;omega)))))
          exact q_post (.inr rfl) (by simp;exact Rz) (le_ls (sz:=2) (fun x=>x) (fun _ _=>rfl) (fun _ _ h=>h) (pvs_plain _) hat hids) ⟨rfl,rfl⟩
set_option maxHeartbeats 8000000 in
theorem c_togS (H:Heap) (L B:List (Int × Int)) (tv ov:AV) (hT:RAt H 2 tv (L.flatMap pv) L.length) (hO:RAt H 2 ov (pvs B) B.length) (hA:∀ x∈L,0≤(idP x).1∧(idP x).1≤(idP x).2∧(idP x).2≤100000000) (hLl:L.length≤10000000) (hB:Cano B) (hBb:∀ b∈B,0≤b.1∧b.2≤100000000) (hBl:B.length≤1000000000) :
    ACalls Try.prog F.scale_together_api_Span [tv,ov,.fn (.func F.scale_weighing_totals_1_2) [] []] H (fun v h'=>v=lsV H 2 (togL (L.map (idP)) B).length∧h'=H++lsO (togL (L.map (idP)) B).length (pvs (togL (L.map (idP)) B))):=by
  have sT:∀ m,tv.sc (H.length+m)=true:=fun m=>hT.sc (by omega)
  have sO:∀ m,ov.sc (H.length+m)=true:=fun m=>hO.sc (by omega)
  have sT0:=sT 0
  have sO0:=sO 0
  rw [Nat.add_zero] at sT0 sO0
  refine acalls_of ok_scale_together_api_Span rfl fun hcl=>?_
  unfold ac_scale_together_api_Span zo
  simp only [argsT,Nat.zero_add,Nat.reduceAdd]
  repeat (first|(with_reducible first|apply X1|apply X2|apply X8)|((with_reducible apply e_end);(simp;exact Rz))|((with_reducible apply O1);rfl;(simp (disch:=omega);exact Rz);exact Rz;(focus (first|(simp;done)|omega|(simp;omega)))))
  refine O1 rfl (RAt.len hT _ (by simp)) Rz trivial ?_
  by_cases hL0:L.length=0
  · have e:togL (L.map (idP)) B=[]:=by
      have:L=[]:=List.eq_nil_of_length_eq_zero hL0
      subst this;rfl
    repeat (first|(with_reducible first|apply X1|apply X2|apply X3|apply X8|apply X9)|((with_reducible apply e_end);(simp;exact Rz))|((with_reducible apply O1);rfl;(simp (disch:=omega) [hL0];exact Rz);exact Rz;(focus (first|(simp;done)|omega|(simp;omega))))|((with_reducible apply Z9);(simp (disch:=omega) [hL0];exact Rz))|((with_reducible apply Z2);(simp (disch:=omega) [hL0];exact Rz)))
    rw [e]
    exact q_stay (.inr rfl) (by simp;exact Rz) ⟨rfl,(List.append_nil _).symm⟩
  repeat (first|((with_reducible apply O1);rfl;(simp (disch:=omega) [hL0];exact Rz);exact Rz;(focus (first|(simp;done)|omega|(simp;omega))))|((with_reducible apply Z7);(simp (disch:=omega) [hL0];exact Rz)))
  refine O1 rfl (RAt.len hO _ (by simp)) Rz trivial ?_
  by_cases hB0:B.length=0
  · have e:togL (L.map (idP)) B=[]:=by
      have:B=[]:=List.eq_nil_of_length_eq_zero hB0
      subst this;simp [togL]
    repeat (first|(with_reducible first|apply X1|apply X2|apply X3|apply X8|apply X9)|((with_reducible apply e_end);(simp;exact Rz))|((with_reducible apply O1);rfl;(simp (disch:=omega) [hB0];exact Rz);exact Rz;(focus (first|(simp;done)|omega|(simp;omega))))|((with_reducible first|apply Z7|apply Z9);(simp (disch:=omega) [hB0];exact Rz)))
    rw [e]
    exact q_stay (.inr rfl) (by simp;exact Rz) ⟨rfl,(List.append_nil _).symm⟩
  obtain⟨tid,toff,tex,rfl,hTr⟩:=hT.slice (by omega)
  obtain⟨oid,ooff,oex,rfl,hOr⟩:=hO.slice (by omega)
  have tidl:=rd_lt hTr
  have oidl:=rd_lt hOr
  have hrow:∀ i,i<L.length→rd H tid (toff+i * 2) 2=some (pv (gP L i)):=fun i hi=>by
    have:=rd_row (f:=pv) (k:=2) (fun _=>rfl) hTr hi
    rw [gP_eq hi];exact this
  have horow:∀ i,i<B.length→rd H oid (ooff+i * 2) 2=some (pv (gP B i)):=fun i hi=>by
    have:=rd_row (f:=pv) (k:=2) (fun _=>rfl) hOr hi
    rw [gP_eq hi];exact this
  have hgA:∀ i,i<L.length→gP (L.map (idP)) i=idP (gP L i):=fun i hi=>by simp [gP,hi]
  have hAb:∀ x∈L.map (idP),0≤x.1∧x.1≤x.2∧x.2≤100000000:=fun x hx=>by
    obtain⟨y,hy,rfl⟩:=List.mem_map.1 hx
    exact hA y hy
  have hA0:L.map (idP)≠[]:=by simp;exact fun h=>hL0 (by rw [h];rfl)
  have hmn:=fun n (hn:n≤L.length)=>mn_bd (a:=0) (b:=100000000) hAb hA0 (n:=n) (by simpa using hn)
  have kof:=fun X (x:Int × Int)=>c_ofS X  x
  have r0:=hrow 0 (by omega)
  rw [Nat.zero_mul,Nat.add_zero] at r0
  have g0:=hgA 0 (by omega)
  have hmul0:2≤L.length * 2:=by omega
  simp only [pv] at r0 hrow kof
  repeat (first|(with_reducible first|apply X1|apply X2|apply X5|apply X8)|((with_reducible apply e_end);(simp;exact Rz))|((with_reducible apply O1);rfl;(simp (disch:=omega) [hB0,rd_old _ tidl,r0,hL0,show 0<L.length by omega];exact Rz);exact Rz;(focus (first|(simp;done)|omega|(simp;omega))))|((with_reducible apply Z7);(simp (disch:=omega) [hB0,rd_old _ tidl,r0,hL0,show 0<L.length by omega];exact Rz))|((with_reducible apply W3);(simp (disch:=omega) [hB0,rd_old _ tidl,r0,hL0,show 0<L.length by omega];exact Rz)))
  (with_reducible apply e_callV);(simp;exact Rz);(simp;exact Rz);exact kof _ _
  rintro _ hqh ⟨rfl,hqe⟩
  rw [hqe];clear hqe hqh
  repeat (first|(with_reducible first|apply X1|apply X2|apply X6|apply X8)|((with_reducible apply e_end);(simp;exact Rz))|((first|((with_reducible apply O1);rfl)|((with_reducible apply O2);rfl));(simp (disch:=omega);exact Rz);exact Rz;(focus (first|(simp;done)|omega|(simp;omega)))))
  refine e_loop (ι:={ x:Nat × Heap // x.1≤L.length })
    (fun x=>[(0,.slice tid toff L.length 2 tex),(1,.slice oid ooff B.length 2 oex),(2,.fn (.func F.scale_weighing_totals_1_2) [] []),(7,.ptr H.length 0),(30,.slice tid toff L.length 2 tex),(31,.int .i64 L.length),(32,.int .i64 x.1.1)])
    (fun x=>H++.cells [.int .i64 (mnL (L.map (idP)) x.1.1),.int .i64 (mxL (L.map (idP)) x.1.1)] true :: x.1.2) (fun x=>L.length-x.1.1) ⟨(0,[]),by simp⟩ ?_ ?_
  · exact .inl (by simp [mnL,mxL,g0])
  · rintro⟨⟨i,G⟩,hi⟩
    dsimp only at hi ⊢
    by_cases hlt:i<L.length
    · have hlt2:(i:Int)<L.length:=by omega
      have hx:=hrow i hlt
      have hm0:i * 2+2≤L.length * 2:=by omega
      have e1:mnL (L.map (idP)) (i+1)=(if (idP (gP L i)).1<mnL (L.map (idP)) i then (idP (gP L i)).1 else mnL (L.map (idP)) i):=by
        simp only [mnL,hgA i hlt];split <;> omega
      have e2:mxL (L.map (idP)) (i+1)=(if mxL (L.map (idP)) i<(idP (gP L i)).2 then (idP (gP L i)).2 else mxL (L.map (idP)) i):=by
        simp only [mxL,hgA i hlt];split <;> omega
      repeat (first|(with_reducible first|apply X1|apply X2|apply X5|apply X6|apply X8)|((with_reducible apply e_end);(simp;exact Rz))|((first|((with_reducible apply O1);rfl)|((with_reducible apply O2);rfl));(simp (disch:=omega) [hlt,hlt2,rd_old _ tidl,hx];exact Rz);exact Rz;(focus (first|(simp;done)|omega|(simp;omega))))|((with_reducible apply Z9);(simp (disch:=omega) [hlt,hlt2,rd_old _ tidl,hx];exact Rz)))
      (with_reducible apply e_callV);(simp;exact Rz);(simp;exact Rz);exact kof _ _
      rintro _ _ ⟨rfl,rfl⟩
      repeat (first|(with_reducible first|apply X2|apply X8|apply Y2)|((with_reducible apply e_end);(simp;exact Rz))|((first|((with_reducible apply O1);rfl)|((with_reducible apply O2);rfl));(simp (disch:=omega);exact Rz);exact Rz;(focus (first|(simp;done)|omega|(simp;omega)))))
      exact q_again ⟨(i+1,_),hlt⟩ (by dsimp only;omega) (.inl (by simp [e1,e2];rfl))
    · have hlt2:¬ (i:Int)<L.length:=by omega
      obtain rfl:i=L.length:=by omega
      have hB1:(0:Int)≤(B.length:Int)-1:=by omega
      have hB2:(B.length:Int)-1<B.length:=by omega
      have hB3:((B.length:Int)-1).toNat=B.length-1:=by omega
      have o1:=horow 0 (by omega)
      have o2:=horow (B.length-1) (by omega)
      simp only [pv] at o1 o2
      have o11:rd H oid ooff 1=some [.int .i64 (gP B 0).1]:=by have:=rd_sub' o1 0 1 (by omega);simpa using this
      have o22:rd H oid (ooff+(B.length-1) * 2+1) 1=some [.int .i64 (gP B (B.length-1)).2]:=by have:=rd_sub' o2 1 1 (by omega);simpa using this
      have hm:=hmn L.length (Nat.le_refl _)
      have b1:=hBb _ (gP_mem (A:=B) (i:=0) (by omega))
      have b2:=hBb _ (gP_mem (A:=B) (i:=B.length-1) (by omega))
      have b3:=hB.le _ (gP_mem (A:=B) (i:=0) (by omega))
      have b4:=hB.le _ (gP_mem (A:=B) (i:=B.length-1) (by omega))
      repeat (first|(with_reducible first|apply X1|apply X2|apply X4|apply X8|apply Y1|apply Y4|apply Y6|apply Y9)|((with_reducible apply e_end);(simp;exact Rz))|((first|((with_reducible apply O1);rfl)|((with_reducible apply P1);rfl)|((with_reducible apply P2);rfl));(simp (disch:=omega) [hlt,hlt2,rd_old _ oidl,o11,o22,hB1,hB2,hB3,show 0<B.length by omega];exact Rz);exact Rz;(focus (first|(simp;done)|omega|(simp;omega))))|((with_reducible apply W3);(simp (disch:=omega) [hlt,hlt2,rd_old _ oidl,o11,o22,hB1,hB2,hB3,show 0<B.length by omega];exact Rz)))
      (with_reducible apply d_call);(simp;exact Rz);exact c_plus _ _ _ _ _ (by omega) (by omega) (by omega) (by omega);(focus (first|(simp;done)|(simp;omega)))
      repeat (first|(with_reducible first|apply X1|apply X2|apply X8)|((with_reducible apply d_end);(simp;exact Rz))|((first|((with_reducible apply O1);rfl)|((with_reducible apply P4);rfl));(simp (disch:=omega);exact Rz);exact Rz;(focus (first|(simp;done)|omega|(simp;omega)))))
      have hF:mnL (L.map (idP)) L.length+(gP B 0).1=toF (L.map (idP)) B:=by simp [toF]
      have hTo:mxL (L.map (idP)) L.length+(gP B (B.length-1)).2=toT (L.map (idP)) B:=by simp [toT]
      have hFb:0≤toF (L.map (idP)) B∧toF (L.map (idP)) B≤toT (L.map (idP)) B∧toT (L.map (idP)) B≤200000000:=by
        have b5:(gP B 0).1≤(gP B (B.length-1)).2:=Int.le_trans (hB.ends (gP_mem (A:=B) (i:=B.length-1) (by omega))).1 b4
        rw [← hF,← hTo];omega
      have hNd:(toT (L.map (idP)) B-toF (L.map (idP)) B+2).toNat=toN (L.map (idP)) B:=rfl
      rw [hF,hTo]
      refine O1 rfl (den_mk0 (m:=toT (L.map (idP)) B-toF (L.map (idP)) B+2) (by simp)) Rz ⟨by omega,by omega,by omega,by omega⟩ ?_
      rw [hNd]
      have hAle:∀ a∈L.map (idP),a.1≤a.2:=fun a ha=>(hAb a ha).2.1
      have hprl:=prs_lt hAle hB
      have hend:(ruS (fun i=>decide (0<cn (prs (toF (L.map (idP)) B) (L.map (idP)) B) i)) (toN (L.map (idP)) B)).2=none:=to_end hAle hB
      have hres:togL (L.map (idP)) B=ruL (fun i=>decide (0<cn (prs (toF (L.map (idP)) B) (L.map (idP)) B) i)) (toN (L.map (idP)) B) (toF (L.map (idP)) B):=by
        unfold togL;rw [if_neg (fun h=>by rcases h with h|h;exact hA0 h;exact hB0 (by rw [h];rfl))];rfl
      have hpl:=prs_len (toF (L.map (idP)) B) (L.map (idP)) B
      have hprA:=fun a b ha hb=>pr_at hAle hB (a:=a) (b:=b) ha hb
      have hNe:(toN (L.map (idP)) B:Int)=toT (L.map (idP)) B-toF (L.map (idP)) B+2:=by simp only [toN];omega
      have hAlen:(L.map (idP)).length=L.length:=by simp
      have hgm:∀ i,i<L.length→idP (gP L i)∈L.map (idP):=fun i hi=>List.mem_map.2 ⟨_,gP_mem hi,rfl⟩
      clear hF hTo hmn hm g0 hNd
      generalize hAe:L.map (idP)=A at *
      generalize hfe:toF A B=f at *
      generalize hte:toT A B=t at *
      generalize hNn:toN A B=N at *
      repeat (first|(with_reducible first|apply X1|apply X2|apply X6|apply X8)|((with_reducible apply e_end);(simp;exact Rz))|((with_reducible apply O1);rfl;(simp (disch:=omega);exact Rz);exact Rz;(focus (first|(simp;done)|omega|(simp;omega)))))
      have hAB:A.length * B.length≤10000000 * 1000000000:=Nat.mul_le_mul (by omega) hBl
      refine e_loop (ι:={ x:Nat × Heap // x.1≤L.length })
        (fun x=>[(1,.slice oid ooff B.length 2 oex),(2,.fn (.func F.scale_weighing_totals_1_2) [] []),(7,.ptr H.length 0),(11,.slice (H.length+(G.length+1)) 0 N 1 true),(72,.slice tid toff L.length 2 tex),(73,.int .i64 L.length),(74,.int .i64 x.1.1)])
        (fun x=>H++.cells [.int .i64 f,.int .i64 t] true :: (G++.cells (avL (dl (PP f A B x.1.1 0)) N) true :: x.1.2)) (fun x=>L.length-x.1.1) ⟨(0,[]),by simp⟩ ?_ ?_
      · refine .inl ?_
        have e:avL (fun _=>0) N=avL (dl (PP f A B 0 0)) N:=by rw [PP_zero];rfl
        simp [e]
      · rintro⟨⟨k,G2⟩,hk⟩
        dsimp only at hk ⊢
        by_cases hkl:k<L.length
        · have hkl2:(k:Int)<L.length:=by omega
          have hx:=hrow k hkl
          have hm0:k * 2+2≤L.length * 2:=by omega
          repeat (first|(with_reducible first|apply X1|apply X2|apply X5|apply X6|apply X8)|((with_reducible apply e_end);(simp;exact Rz))|((first|((with_reducible apply O1);rfl)|((with_reducible apply O2);rfl));(simp (disch:=omega) [hkl,hkl2,rd_old _ tidl,hx];exact Rz);exact Rz;(focus (first|(simp;done)|omega|(simp;omega))))|((with_reducible apply Z9);(simp (disch:=omega) [hkl,hkl2,rd_old _ tidl,hx];exact Rz)))
          (with_reducible apply e_callV);(simp;exact Rz);(simp;exact Rz);exact kof _ _
          rintro _ _ ⟨rfl,rfl⟩
          repeat (first|(with_reducible first|apply X1|apply X2|apply X6|apply X8)|((with_reducible apply e_end);(simp;exact Rz))|((first|((with_reducible apply O1);rfl)|((with_reducible apply O2);rfl));(simp (disch:=omega);exact Rz);exact Rz;(focus (first|(simp;done)|omega|(simp;omega)))))
          have hrowL:idP (gP L k)=gP A k:=(hgA k hkl).symm
          rw [hrowL]
          have hak:=hAb _ (gP_mem (A:=A) (i:=k) (by omega))
          refine e_loop (ι:={ x:Nat × Heap // x.1≤B.length })
            (fun x=>[(1,.slice oid ooff B.length 2 oex),(2,.fn (.func F.scale_weighing_totals_1_2) [] []),(7,.ptr H.length 0),(11,.slice (H.length+(G.length+1)) 0 N 1 true),(14,.ptr (H.length+(G.length+(G2.length+1+1)+1)) 0),(72,.slice tid toff L.length 2 tex),(73,.int .i64 L.length),(74,.int .i64 k),(81,.slice oid ooff B.length 2 oex),(82,.int .i64 B.length),(83,.int .i64 x.1.1)])
            (fun x=>H++.cells [.int .i64 f,.int .i64 t] true :: (G++.cells (avL (dl (PP f A B k x.1.1)) N) true :: (G2++.cells [.int .i64 (gP L k).1,.int .i64 (gP L k).2] true :: .cells [.int .i64 (gP A k).1,.int .i64 (gP A k).2] true :: x.1.2))) (fun x=>B.length-x.1.1) ⟨(0,[]),by simp⟩ ?_ ?_
          · exact .inl (by simp)
          · rintro⟨⟨m,G3⟩,hm⟩
            dsimp only at hm ⊢
            by_cases hml:m<B.length
            · have hml2:(m:Int)<B.length:=by omega
              have hox:=horow m hml
              simp only [pv] at hox
              have hm1:m * 2+2≤B.length * 2:=by omega
              have hp:=hprA _ _ (gP_mem (A:=A) (i:=k) (by omega)) (gP_mem hml)
              have pl:=PP_len f A B k m
              have db1:=dl_bd (PP f A B k m) ((gP A k).1+(gP B m).1-f).toNat
              have db2:=dl_bd (PP f A B k m) ((gP A k).2+(gP B m).2+1-f).toNat
              have hx1:((gP A k).1+(gP B m).1-f).toNat<N:=by omega
              have hy1:((gP A k).2+(gP B m).2+1-f).toNat<N:=by omega
              have hxy:((gP A k).1+(gP B m).1-f).toNat≠((gP A k).2+(gP B m).2+1-f).toNat:=by omega
              have hx0:(0:Int)≤(gP A k).1+(gP B m).1-f:=by omega
              have hxN:(gP A k).1+(gP B m).1-f<N:=by omega
              have hy0:(0:Int)≤(gP A k).2+(gP B m).2+1-f:=by omega
              have hyN:(gP A k).2+(gP B m).2+1-f<N:=by omega
              have hnx:=dl_snoc (PP f A B k m) hxy
              rw [← PP_succ f A B k hml] at hnx
              generalize hxe:((gP A k).1+(gP B m).1-f).toNat=x at *
              generalize hye:((gP A k).2+(gP B m).2+1-f).toNat=y at *
              obtain⟨D2,hD2⟩:∃ D,D=dl (PP f A B k (m+1)):=⟨_,rfl⟩
              rw [← hD2] at hnx
              generalize dl (PP f A B k m)=D at *
              obtain⟨D1,hD1⟩:∃ g:Nat→Int,g=fun j=>if j=x then D j+1 else D j:=⟨_,rfl⟩
              have hx2:x+1≤N:=hx1
              have hy2:y+1≤N:=hy1
              have o1:=avL_one (f:=D) hx1
              have q1:∀ j,D1 j=if j=x then D x+1 else D j:=by
                intro j
                rw [hD1];dsimp only
                by_cases hj:j=x
                · rw [if_pos hj,if_pos hj,hj]
                · rw [if_neg hj,if_neg hj]
              have p1:List.take x (avL D N)++AV.int .i64 (D x+1) :: List.drop (x+1) (avL D N)=avL D1 N:=by
                have:=avL_put (f:=D) (g:=D1) (x:=D x+1) hx1 q1
                simpa [splice] using this
              have hyx:¬ y=x:=fun e=>hxy e.symm
              have o2:=avL_one (f:=D1) hy1
              have hD1y:D1 y=D y:=by rw [hD1];dsimp only;rw [if_neg hyx]
              rw [hD1y] at o2
              have q2:∀ j,D2 j=if j=y then D y-1 else D1 j:=by
                intro j
                rw [hnx j,if_neg hyx,hD1]
              have p2:List.take y (avL D1 N)++AV.int .i64 (D y-1) :: List.drop (y+1) (avL D1 N)=avL D2 N:=by
                have:=avL_put (f:=D1) (g:=D2) (x:=D y-1) hy1 q2
                simpa [splice] using this
              clear hD1 hnx hD1y q1 q2
              repeat (first|(with_reducible first|apply X1|apply X2|apply X5|apply X6|apply X8|apply Y2)|((with_reducible apply e_end);(simp;exact Rz))|((first|((with_reducible apply O1);rfl)|((with_reducible apply O2);rfl));(simp (disch:=omega) [hml,hml2,rd_old _ oidl,hox,hx0,hxN,hy0,hyN,hxe,hye,avL_length,o1,p1,o2,p2,hx1,hy1,hx2,hy2];exact Rz);exact Rz;(focus (first|(simp;done)|omega|(simp;omega))))|((with_reducible apply Z9);(simp (disch:=omega) [hml,hml2,rd_old _ oidl,hox,hx0,hxN,hy0,hyN,hxe,hye,avL_length,o1,p1,o2,p2,hx1,hy1,hx2,hy2];exact Rz)))
              subst hD2
              exact q_again ⟨(m+1,_),hml⟩ (by dsimp only;omega) (.inl (by simp;rfl))
            · have hml2:¬ (m:Int)<B.length:=by omega
              obtain rfl:m=B.length:=by omega
              rw [PP_row f A B (by omega)]
              repeat (first|(with_reducible first|apply X1|apply X2|apply X4|apply X8|apply Y1|apply Y2|apply Y4|apply Y6)|((with_reducible apply e_end);(simp;exact Rz))|((with_reducible apply O1);rfl;(simp (disch:=omega) [hml,hml2];exact Rz);exact Rz;(focus (first|(simp;done)|omega|(simp;omega))))|((with_reducible apply W3);(simp (disch:=omega) [hml,hml2];exact Rz)))
              exact q_again ⟨(k+1,_),hkl⟩ (by dsimp only;omega) (.inl (by simp;rfl))
        · have hkl2:¬ (k:Int)<L.length:=by omega
          obtain rfl:k=L.length:=by omega
          rw [← hAlen,PP_end]
          simp only [hAlen]
          repeat (first|(with_reducible first|apply X1|apply X2|apply X4|apply X8|apply Y1|apply Y4|apply Y6)|((with_reducible apply e_end);(simp;exact Rz))|((with_reducible apply O1);rfl;(simp (disch:=omega) [hkl,hkl2];exact Rz);exact Rz;(focus (first|(simp;done)|omega|(simp;omega))))|((with_reducible apply W3);(simp (disch:=omega) [hkl,hkl2];exact Rz)))
          have hb0:=fun i=>cn_bd (prs f A B) i
          have hlt:=fun x hx=>(hprl x hx).1
          have kc:=c_covered (H++.cells [.int .i64 f,.int .i64 t] true :: (G++.cells (avL (dl (prs f A B)) N) true :: G2)) (H.length+(G.length+1)) N true (dl (prs f A B)) (cn (prs f A B)) f (by simp) (by omega) (cn_zero hlt) (cn_succ hlt) (fun i=>by
            have:=cn_bd (prs f A B) i
            rw [hpl] at this
            omega) (by omega) hend
          (with_reducible apply e_call);(simp;exact Rz);exact kc
          rintro _ _ ⟨rfl,rfl⟩
          rw [← hres]
          have hat:=ls_at (H++.cells [.int .i64 f,.int .i64 t] true :: (G++.cells (avL (dl (prs f A B)) N) true :: G2)) (pvs_len (togL A B))
          have hids:∀ i,isId (lsV (H++.cells [.int .i64 f,.int .i64 t] true :: (G++.cells (avL (dl (prs f A B)) N) true :: G2)) 2 (togL A B).length) i→H.length≤i:=fun i hi=>by
            unfold lsV at hi
            split at hi
            · exact hi.elim
            · have:(H++.cells [.int .i64 f,.int .i64 t] true :: (G++.cells (avL (dl (prs f A B)) N) true :: G2)).length=i:=hi
              simp at this;omega
          have hsc:=ls_sc (H++.cells [.int .i64 f,.int .i64 t] true :: (G++.cells (avL (dl (prs f A B)) N) true :: G2)) 2 (togL A B).length (pvs (togL A B))
          generalize lsV (H++.cells [.int .i64 f,.int .i64 t] true :: (G++.cells (avL (dl (prs f A B)) N) true :: G2)) 2 (togL A B).length=rv at *
          rw [List.append_assoc] at hat ⊢
          generalize (.cells [.int .i64 f,.int .i64 t] true :: (G++.cells (avL (dl (prs f A B)) N) true :: G2))++lsO (togL A B).length (pvs (togL A B))=GG at *
          repeat (first|(with_reducible first|apply X3|apply X8)|((with_reducible apply e_end);(simp;exact Rz))|((with_reducible apply O1);rfl;(simp (disch:=omega);exact Rz);exact Rz;(focus (first|(simp;done)|omega|(simp;omega)))))
          exact q_post (.inr rfl) (by simp;exact Rz) (le_ls (sz:=2) (fun x=>x) (fun _ _=>rfl) (fun _ _ h=>h) (pvs_plain _) hat hids) ⟨rfl,rfl⟩
def shN (ls:List Ld) (j:Nat) (id:Int):List Int:=((ls.take j).filter fun l=>decide (l.id=id)).map Ld.n
theorem shN_succ (ls:List Ld) {j:Nat} (h:j<ls.length) (id:Int):shN ls (j+1) id=if (lAt ls j).id=id then shN ls j id++[(lAt ls j).n] else shN ls j id:=by
  simp only [shN,List.take_succ_eq_append_getElem h,List.filter_append,List.map_append,lAt_eq h,List.filter_cons,List.filter_nil]
  split
  · rename_i h2;simp [of_decide_eq_true h2]
  · rename_i h2;simp at h2;simp [h2]
def shI (ls:List Ld) (id:Int):List Int:=shN ls ls.length id
theorem shN_len (ls:List Ld) (j:Nat) (id:Int):(shN ls j id).length≤j:=by
  simp only [shN,List.length_map]
  exact Nat.le_trans (List.length_filter_le _ _) (by simp;omega)
theorem mem_shI {ls:List Ld} {id n:Int}:n∈shI ls id↔∃ l∈ls,l.id=id∧l.n=n:=by
  simp [shI,shN,and_assoc]
structure UsF (B:List SP) (ls:List Ld) (N0 j:Nat) (f:Int→Option AV) (Z:Heap):Prop where
  yes:∀ i,i<B.length→∃ w,f (bAt B i).s.id=some w∧AAt Z 1 w (iv (shN ls j (bAt B i).s.id)) (shN ls j (bAt B i).s.id).length∧∀ q,isId w q→N0≤q
  no:∀ id,(∀ i,i<B.length→(bAt B i).s.id≠id)→f id=none
  dis:∀ a b w w' q,f a=some w→f b=some w'→isId w q→isId w' q→a=b
def mpN (B:List SP):Nat→Int→Option AV
  | 0=>fun _=>none
  | i+1=>updI (mpN B i) (bAt B i).s.id .nilslice
theorem mpN_none {B:List SP} {k:Int}:∀ {i},(∀ j,j<i→(bAt B j).s.id≠k)→mpN B i k=none
  | 0,_=>rfl
  | i+1,h=>by
    simp only [mpN,updI_at]
    rw [if_neg (fun e=>h i (by omega) e.symm)]
    exact mpN_none fun j hj=>h j (by omega)
theorem mpN_some {B:List SP} {j:Nat}:∀ {i},j<i→mpN B i (bAt B j).s.id=some .nilslice
  | i+1,h1=>by
    simp only [mpN,updI_at]
    split
    · rfl
    · rename_i h
      rcases Nat.lt_or_ge j i with h4|h4
      · exact mpN_some h4
      · have:j=i:=by omega
        subst this;exact absurd rfl h
theorem mpN_val {B:List SP} {k:Int} {w:AV}:∀ {i},mpN B i k=some w→w=.nilslice
  | 0,h=>by cases h
  | i+1,h=>by
    simp only [mpN,updI_at] at h
    split at h
    · cases h;rfl
    · exact mpN_val h
theorem UsF.start (B:List SP) (ls:List Ld) (N0:Nat) (Z:Heap):UsF B ls N0 0 (mpN B B.length) Z where
  yes:=fun i hi=>⟨.nilslice,mpN_some hi,by simpa [shN,iv] using AAt.nil Z 1,fun q hq=>hq.elim⟩
  no:=fun id h=>mpN_none h
  dis:=fun a b w w' q h1 h2 h3=>by rw [mpN_val h1] at h3;exact h3.elim
theorem UsF.app {B:List SP} {ls:List Ld} {N0 j:Nat} {f:Int→Option AV} {Z:Heap} (h:UsF B ls N0 j f Z) (G:Heap):UsF B ls N0 j f (Z++G) :=
  ⟨fun i hi=>by obtain⟨w,a,b,c⟩:=h.yes i hi;exact⟨w,a,b.app G,c⟩,h.no,h.dis⟩
theorem d_putI {P:Program} {ps:List (List Nat)} {l:List AO} {i:Nat} {past:List (Nat × Heap)} {rds:List Rd} {K:St→Prop} {t:List (Nat × AV)} {h:Heap} {m x y:AOpd} {id:Nat} {k:Int} {v:AV} {o:AObj} {f:Int→Option AV} (hm:Red (m.ev t) (.map id)) (hi:Red (x.ev t) (.int .i64 k)) (hx:Red (y.ev t) v) (hh:h[id]?=some o) (hp:IMap o f)
    (hre:(rds.all fun r=>(pr ps i).contains r.at_)=true) (hsl:((AOp.mapPut (.one .int) m x y).slots.all fun k=>(lk t k).sc h.length)=true)
    (hn:∀ o',IMap o' (updI f k v)→EDraw P ps l (i+1) ((i,h) :: past) (rds.filter fun r=>!(pr ps i).contains r.at_) K t (h.set id o')):EDraw P ps (⟨none,.mapPut (.one .int) m x y,none⟩ :: l) i past rds K t h:=by
  obtain⟨o',p1,p2⟩:=den_putI (ev:=AOpd.ev t) hm hi hx hh hp
  exact d_do rfl rfl hre p2 Rz trivial hsl (by simp) (hn o' p1)
theorem get_four {H G:Heap} {a b c d a' b' c' d':AObj} {i:Nat} (h:H.length+4≤i):(H++a :: b :: c :: d :: G)[i]?=(H++a' :: b' :: c' :: d' :: G)[i]?:=by
  rw [List.getElem?_append_right (by omega),List.getElem?_append_right (by omega)]
  obtain⟨j,rfl⟩:∃ j,i=H.length+(j+1+1+1+1):=⟨i-H.length-4,by omega⟩
  simp only [Nat.add_sub_cancel_left,List.getElem?_cons_succ]
theorem UsF.step {B:List SP} {ls:List Ld} {N0 j:Nat} {f:Int→Option AV} {Z Z2:Heap} {w w2:AV} (hU:UsF B ls N0 j f Z) (hj:j<ls.length) (hw:f (lAt ls j).id=some w) (h2:AAt Z2 1 w2 (iv (shN ls (j+1) (lAt ls j).id)) (shN ls (j+1) (lAt ls j).id).length) (hge:∀ q,isId w2 q→Z.length≤q) (hN:N0≤Z.length)
    (hk:∀ q,q<Z.length→N0≤q→¬ isId w q→Z2[q]?=Z[q]?) (hin:∃ i,i<B.length∧(bAt B i).s.id=(lAt ls j).id):UsF B ls N0 (j+1) (updI f (lAt ls j).id w2) Z2:=by
  refine⟨fun i hi=>?_,fun id h=>?_,fun a b x y q h1 h3 h4 h5=>?_⟩
  · by_cases he:(bAt B i).s.id=(lAt ls j).id
    · refine⟨w2,by rw [updI_at,if_pos he],by rw [he];exact h2,fun q hq=>by have:=hge q hq;omega⟩
    · obtain⟨x,a,b,c⟩:=hU.yes i hi
      refine⟨x,by rw [updI_at,if_neg he];exact a,?_,c⟩
      rw [shN_succ ls hj,if_neg (fun h=>he h.symm)]
      exact b.keep fun q hq=>hk q (b.l.lt hq) (c q hq) (fun h=>he (hU.dis _ _ _ _ q a hw hq h))
  · obtain⟨i,hi,he⟩:=hin
    rw [updI_at,if_neg (fun h2=>h i hi (by rw [he,h2]))]
    exact hU.no id h
  · rw [updI_at] at h1 h3
    have old:∀ c z,f c=some z→isId z q→q<Z.length:=fun c z h6 h7=>by
      by_cases hb:∃ i,i<B.length∧(bAt B i).s.id=c
      · obtain⟨i,hi,rfl⟩:=hb
        obtain⟨x',a',b',_⟩:=hU.yes i hi
        rw [h6] at a';cases a'
        exact b'.l.lt h7
      · rw [hU.no c fun i hi h=>hb ⟨i,hi,h⟩] at h6;cases h6
    split at h1 <;> split at h3
    · rename_i e1 e2;rw [e1,e2]
    · cases h1;have:=old _ _ h3 h5;have:=hge q h4;omega
    · cases h3;have:=old _ _ h1 h4;have:=hge q h5;omega
    · exact hU.dis _ _ _ _ q h1 h3 h4 h5
theorem d_appB {P:Program} {ps:List (List Nat)} {l:List AO} {i:Nat} {past:List (Nat × Heap)} {rds:List Rd} {K:St→Prop} {t:List (Nat × AV)} {h A G:Heap} {d sz bytes n m:Nat} {v w:AV} {cs new:List AV} {x y:AOpd} (he:h=A++G)
    (hx:Red (x.ev t) v) (hy:Red (y.ev t) w) (hl:AAt h sz v cs n) (hvi:∀ i,isId v i→A.length≤i) (hw:sliceCells h sz w=some (m,new)) (hsc:new.all scal=true) (hb:(n+m) * bytes≤140737488355328) (h0:0<n+m)
    (hnl:new.length=m * sz)
    (hre:∀ h2:Heap,(∀ i,i<h.length→¬ isId v i→h2[i]?=h[i]?)→h.length≤h2.length→recheck ps i h2 rds) (hsl:((AOp.append x y sz bytes).slots.all fun k=>(lk t k).sc h.length)=true)
    (hn:∀ (G':Heap) (v':AV),AAt (A++G') sz v' (cs++new) (n+m)→(∀ i,isId v' i→A.length≤i)→(∀ i,i<h.length→¬ isId v i→(A++G')[i]?=h[i]?)→(∀ i,isId v' i→h.length≤i)→h.length≤(A++G').length →
      EDraw P ps l (i+1) ((i,h) :: past) (rds.filter fun r=>!(pr ps i).contains r.at_) K ((d,v') :: t) (A++G')) :
    EDraw P ps (⟨some d,.append x y sz bytes,none⟩ :: l) i past rds K t h:=by
  have fin:∀ h1:Heap,h1.length=h.length→(∀ i,¬ isId v i→h1[i]?=h[i]?)→EDraw P ps l (i+1) ((i,h) :: past) (rds.filter fun r=>!(pr ps i).contains r.at_) K ((d,.slice h.length 0 (n+m) sz false) :: t) (h1++[.cells (cs++new) true]):=fun h1 e1 e2=>by
    have hA:A.length≤h.length:=by rw [he];simp
    have e3:∀ j,j<h.length→¬ isId v j→(h1++[AObj.cells (cs++new) true])[j]?=h[j]?:=fun j hj hv=>by
      rw [List.getElem?_append_left (by omega)];exact e2 j hv
    have e4:(h1++[AObj.cells (cs++new) true])[h.length]?=some (.cells (cs++new) true):=by rw [List.getElem?_append_right (by omega),e1];simp
    have e5:h.length≤(h1++[AObj.cells (cs++new) true]).length:=by simp;omega
    generalize h1++[AObj.cells (cs++new) true]=h2 at *
    obtain⟨G2,rfl⟩:=ext_of (A:=A) (h':=h2) (by omega) (by
      intro k hk
      rw [e3 k (by omega) (fun hid=>by have:=hvi k hid;omega),he,List.getElem?_append_left hk])
    refine hn G2 _ ⟨by rw [List.length_append,hl.1,hnl,Nat.add_mul],.inr ⟨_,h0,rfl,e4⟩⟩ (fun i hi=>?_) (fun i hi hv=>e3 i hi hv) (fun i hi=>?_) e5
    · have:h.length=i:=hi
      omega
    · have:h.length=i:=hi
      omega
  obtain⟨h1,⟨h2,e1,e2⟩|⟨h2,e1,e2⟩⟩:=app_den (bytes:=bytes) hx hy hl.l hw hsc hb
  · exact d_do_ rfl rfl h2 Rz ⟨hsc,hb,trivial⟩ hsl (by simp;omega) (hre _ (fun k hk hv=>by rw [List.getElem?_append_left (by omega)];exact e2 k hv) (by simp;omega)) (fin h1 e1 e2)
  · exact d_do_ rfl rfl h2 Rz ⟨hsc,hb⟩ hsl (by simp;omega) (hre _ (fun k hk hv=>by rw [List.getElem?_append_left (by omega)];exact e2 k hv) (by simp;omega)) (fin h1 e1 e2)
structure WAt (Z:Heap) (B:List SP) (g:Gr) (mid:Nat):Prop where
  mp:∃ o f,Z[mid]?=some o∧IMap o f∧(∀ id,shI g.ls id=[]→f id=none)∧∀ id,shI g.ls id≠[]→∃ nid,f id=some (.slice nid 0 (shI g.ls id).length 1 false)∧rd Z nid 0 ((shI g.ls id).length * 1)=some (iv (shI g.ls id))
set_option maxHeartbeats 4000000 in
theorem c_weigh (H:Heap) (B:List SP) (id off:Nat) (ex2:Bool) (hB:BayAt H id off B) (hok:okB B) (hn:(B.length:Int)<1000000) (g:Gr) (lv rv kv:AV) (hg:GAt H g lv rv kv) (hld:∀ i,i<g.ls.length→ldB B (lAt g.ls i)) :
    ACalls Try.prog F.scale_weigh [.agg [.slice id off B.length 7 ex2],.agg (g.av lv rv kv)] H (fun v h'=>∃ mid G,h'=H++G∧v=.agg (.slice id off B.length 7 ex2 :: (g.av lv rv kv++[.map mid]))∧WAt h' B g mid∧mid<h'.length):=by
  have hrl:=rd_lt hB.rows
  have sl:∀ m,lv.sc (H.length+m)=true:=fun m=>RAt.sc hg.l (by omega)
  have sr:∀ m,rv.sc (H.length+m)=true:=fun m=>RAt.sc hg.r (by omega)
  have sk:∀ m,kv.sc (H.length+m)=true:=fun m=>RAt.sc hg.k (by omega)
  have sl0:=sl 0
  have sr0:=sr 0
  have sk0:=sk 0
  rw [Nat.add_zero] at sl0 sr0 sk0
  simp only [Gr.av]
  refine acalls_of ok_scale_weigh rfl fun hcl=>?_
  unfold ac_scale_weigh zo
  simp only [argsT,Nat.zero_add,Nat.reduceAdd]
  repeat (first|(with_reducible first|apply X1|apply X2|apply X6|apply X8)|((with_reducible apply e_end);(simp;exact Rz))|((with_reducible apply O1);rfl;(simp (disch:=omega);exact Rz);exact Rz;(focus (first|(simp;done)|omega|(simp;omega)))))
  refine e_loop (ι:={ x:Nat × AObj × Heap // x.1≤B.length∧IMap x.2.1 (mpN B x.1) })
    (fun x=>[(2,.ptr H.length 0),(3,.ptr (H.length+1) 0),(4,.ptr (H.length+2) 0),(5,.map (H.length+3)),(14,.slice id off B.length 7 ex2),(15,.int .i64 B.length),(16,.int .i64 x.1.1)])
    (fun x=>H++.cells [.slice id off B.length 7 ex2] true :: .cells [lv,.int .i64 g.added,.int .i64 g.base,.int .i64 g.jit,rv,kv,.int .i64 g.spread,.bool g.stamp] true :: .cells [.nilslice,.nilslice,.int .i64 0,.int .i64 0,.int .i64 0,.nilslice,.nilslice,.int .i64 0,.bool false,.nilmap] true ::  x.1.2.1 :: x.1.2.2) (fun x=>B.length-x.1.1) ⟨(0,.other (.map [] [] 0),[]),by simp,IMap.nil⟩ ?_ ?_
  · exact .inl (by simp)
  · rintro⟨⟨i,o,G⟩,hi,ho⟩
    dsimp only at hi ho ⊢
    by_cases hlt:i<B.length
    · have hlt2:(i:Int)<B.length:=by omega
      have hr:=hB.row hlt
      simp only [SP.av,Sc.av] at hr
      have hm0:i * 7+7≤B.length * 7:=by omega
      repeat (first|(with_reducible first|apply X1|apply X2|apply X5|apply X6|apply X8)|((with_reducible apply e_end);(simp;exact Rz))|((first|((with_reducible apply O1);rfl)|((with_reducible apply O2);rfl));(simp (disch:=omega) [hlt,hlt2,rd_old _ hrl,hr];exact Rz);exact Rz;(focus (first|(simp;done)|omega|(simp;omega))))|((with_reducible apply Z9);(simp (disch:=omega) [hlt,hlt2,rd_old _ hrl,hr];exact Rz)))
      refine e_putI (k:=(bAt B i).s.id) (v:=.nilslice) (f:=mpN B i) (by simp;exact Rz) (by simp;exact Rz) (by simp;exact Rz) (by simp) ho ?_
      intro o2 ho2
      simp only [set_new,List.set_cons_succ,List.set_cons_zero]
      repeat (first|(with_reducible first|apply X2|apply X8|apply Y2)|((with_reducible apply e_end);(simp;exact Rz))|((with_reducible apply O1);rfl;(simp (disch:=omega);exact Rz);exact Rz;(focus (first|(simp;done)|omega|(simp;omega)))))
      exact q_again ⟨(i+1,o2,G++[.cells [.int .i64 (bAt B i).s.id,.int .i64 (bAt B i).s.step,.int .i64 (bAt B i).s.gLo,.int .i64 (bAt B i).s.gHi,.int .i64 (bAt B i).s.oLo,.int .i64 (bAt B i).s.oHi,.slice (bAt B i).tid (bAt B i).toff (bAt B i).s.ts.length 2 (bAt B i).ex] true]),hlt,ho2⟩ (by dsimp only;omega) (.inl (by simp))
    · have hlt2:¬ (i:Int)<B.length:=by omega
      obtain rfl:i=B.length:=by omega
      repeat (first|(with_reducible first|apply X1|apply X2|apply X4|apply X8|apply Y1|apply Y4|apply Y6)|((with_reducible apply e_end);(simp;exact Rz))|((with_reducible apply O1);rfl;(simp (disch:=omega) [hlt2];exact Rz);exact Rz;(focus (first|(simp;done)|omega|(simp;omega))))|((with_reducible apply W3);(simp (disch:=omega) [hlt2];exact Rz)))
      refine O1 rfl (RAt.len hg.l _ (by simp)) Rz trivial ?_
      repeat (first|(with_reducible first|apply X6|apply X8)|((with_reducible apply e_end);(simp;exact Rz))|((with_reducible apply O1);rfl;(simp (disch:=omega);exact Rz);exact Rz;(focus (first|(simp;done)|omega|(simp;omega)))))
      have hU0:=UsF.start B g.ls (H.length+4) (H++.cells [.slice id off B.length 7 ex2] true :: .cells [lv,.int .i64 g.added,.int .i64 g.base,.int .i64 g.jit,rv,kv,.int .i64 g.spread,.bool g.stamp] true :: .cells [.nilslice,.nilslice,.int .i64 0,.int .i64 0,.int .i64 0,.nilslice,.nilslice,.int .i64 0,.bool false,.nilmap] true ::  o :: G)
      have hlr:∀ j,j<g.ls.length→∃ lid loff lex,lv=.slice lid loff g.ls.length 2 lex∧lid<H.length∧rd H lid (loff+j * 2) 2=some [.int .i64 (lAt g.ls j).id,.int .i64 (lAt g.ls j).n]:=fun j hj=>by
        obtain⟨lid,loff,lex,e,hr⟩:=hg.l.slice (by omega)
        have:=rd_row Ld.av_length hr hj
        rw [← lAt_eq hj] at this
        exact⟨lid,loff,lex,e,rd_lt hr,this⟩
      have hln:=hg.ln
      refine e_loop (ι:={ x:Nat × AObj × (Int→Option AV) × Heap // x.1≤g.ls.length∧IMap x.2.1 x.2.2.1∧UsF B g.ls (H.length+4) x.1 x.2.2.1 (H++.cells [.slice id off B.length 7 ex2] true :: .cells [lv,.int .i64 g.added,.int .i64 g.base,.int .i64 g.jit,rv,kv,.int .i64 g.spread,.bool g.stamp] true :: .cells [.nilslice,.nilslice,.int .i64 0,.int .i64 0,.int .i64 0,.nilslice,.nilslice,.int .i64 0,.bool false,.nilmap] true ::  x.2.1 :: x.2.2.2) })
        (fun x=>[(2,.ptr H.length 0),(3,.ptr (H.length+1) 0),(4,.ptr (H.length+2) 0),(5,.map (H.length+3)),(25,lv),(26,.int .i64 g.ls.length),(27,.int .i64 x.1.1)])
        (fun x=>H++.cells [.slice id off B.length 7 ex2] true :: .cells [lv,.int .i64 g.added,.int .i64 g.base,.int .i64 g.jit,rv,kv,.int .i64 g.spread,.bool g.stamp] true :: .cells [.nilslice,.nilslice,.int .i64 0,.int .i64 0,.int .i64 0,.nilslice,.nilslice,.int .i64 0,.bool false,.nilmap] true ::  x.1.2.1 :: x.1.2.2.2) (fun x=>g.ls.length-x.1.1) ⟨(0,o,mpN B B.length,G),by simp,ho,hU0⟩ ?_ ?_
      · exact .inl (by simp)
      · clear hU0 hlt hlt2
        rintro⟨⟨j,o,f,G⟩,hj,ho,hU⟩
        dsimp only at hj ho hU ⊢
        by_cases hjl:j<g.ls.length
        · have hjl2:(j:Int)<g.ls.length:=by omega
          obtain⟨lid,loff,lex,rfl,hlidl,hx⟩:=hlr j hjl
          have hm1:j * 2+2≤g.ls.length * 2:=by omega
          obtain⟨q,hq,hqe,_⟩:=hld j hjl
          obtain⟨w,hw1,hw2,hw3⟩:=hU.yes q hq
          rw [hqe] at hw1 hw2
          have wl:=shN_len g.ls j (lAt g.ls j).id
          repeat (first|(with_reducible first|apply X1|apply X2|apply X5|apply X6|apply X8|apply Y9)|((with_reducible apply e_end);(simp;exact Rz))|((first|((with_reducible apply O1);rfl)|((with_reducible apply O2);rfl)|((with_reducible apply P1);rfl)|((with_reducible apply P2);rfl));(simp (disch:=omega) [hjl,hjl2,rd_old _ hlidl,hx];exact Rz);exact Rz;(focus (first|(simp;done)|omega|(simp;omega))))|((with_reducible apply Z9);(simp (disch:=omega) [hjl,hjl2,rd_old _ hlidl,hx];exact Rz)))
          refine P2 rfl (den_getI (ev:=AOpd.ev _) (id:=H.length+3) (k:=(lAt g.ls j).id) (f:=f) (o:=o) (by simp) (by simp [ik]) (by simp) ho) Rz trivial ?_
          rw [hw1]
          simp only [Option.getD_some]
          have sw:∀ m,w.sc (H.length+(G.length+(m+4)))=true:=fun m=>hw2.l.sc (by simp;omega)
          repeat ((first|((with_reducible apply P1);rfl)|((with_reducible apply P2);rfl)|((with_reducible apply P3);rfl));(simp (disch:=omega);exact Rz);exact Rz;(focus (first|(simp;done)|omega|(simp;omega))))
          have sw1:=sw 2
          refine d_appB (A:=H++[.cells [.slice id off B.length 7 ex2] true,.cells [.slice lid loff g.ls.length 2 lex,.int .i64 g.added,.int .i64 g.base,.int .i64 g.jit,rv,kv,.int .i64 g.spread,.bool g.stamp] true,.cells [.nilslice,.nilslice,.int .i64 0,.int .i64 0,.int .i64 0,.nilslice,.nilslice,.int .i64 0,.bool false,.nilmap] true,  o]) (G:=G++[.cells [.int .i64 (lAt g.ls j).id,.int .i64 (lAt g.ls j).n] true,.cells [.int .i64 (lAt g.ls j).n] true]) (cs:=iv (shN g.ls j (lAt g.ls j).id)) (n:=(shN g.ls j (lAt g.ls j).id).length) (m:=1) (new:=[.int .i64 (lAt g.ls j).n]) (by simp) (by simp;exact Rz) (by simp;exact Rz) (by have:=hw2.app [.cells [.int .i64 (lAt g.ls j).id,.int .i64 (lAt g.ls j).n] true,.cells [.int .i64 (lAt g.ls j).n] true];simpa using this) (fun q hq=>by have:=hw3 q hq;simp;omega) (by simp) (by simp) (by omega) (by omega) (by simp) ?_ (by simp [sw1] <;> omega) ?_
          · intro h2 hk2 hl2
            have hp:h2[H.length+(G.length+1+1+1+1)]?=some (.cells [.int .i64 (lAt g.ls j).id,.int .i64 (lAt g.ls j).n] true):=by
              rw [hk2 _ (by simp) (fun h=>by have:=hw2.l.lt h;simp at this)]
              simp
            have hrd:rd h2 (H.length+(G.length+1+1+1+1)) 0 1=some [.int .i64 (lAt g.ls j).id]:=by
              unfold rd;rw [hp];rfl
            simp [recheck,pr,AOp.sem,hrd]
          intro G2 w2 e3 e4 e6 e7 e8
          simp only [List.append_assoc,List.cons_append,List.nil_append] at e3 e4 e6 e7 e8 ⊢
          have sw2:∀ m,w2.sc (H.length+(G2.length+(m+4)))=true:=fun m=>e3.l.sc (by simp;omega)
          have sw20:=sw2 0
          refine d_putI (id:=H.length+3) (k:=(lAt g.ls j).id) (v:=w2) (f:=f) (o:=o) (by simp;exact Rz) (by simp;exact Rz) (by simp;exact Rz) (by simp) ho rfl (by simp [sw20] <;> omega) ?_
          intro o2 ho2
          simp only [set_new,List.set_cons_succ,List.set_cons_zero]
          have hU2:UsF B g.ls (H.length+4) (j+1) (updI f (lAt g.ls j).id w2) (H++.cells [.slice id off B.length 7 ex2] true :: .cells [.slice lid loff g.ls.length 2 lex,.int .i64 g.added,.int .i64 g.base,.int .i64 g.jit,rv,kv,.int .i64 g.spread,.bool g.stamp] true :: .cells [.nilslice,.nilslice,.int .i64 0,.int .i64 0,.int .i64 0,.nilslice,.nilslice,.int .i64 0,.bool false,.nilmap] true ::  o2 :: G2):=by
            refine hU.step hjl hw1 ?_ ?_ (by simp) ?_ ⟨q,hq,hqe⟩
            · rw [shN_succ g.ls hjl,if_pos rfl,iv_app,List.length_append]
              exact e3.keep fun q hq=>get_four (by have:=e4 q hq;simpa using this)
            · intro q hq
              have:=e7 q hq
              simp at this ⊢;omega
            · intro q h1 h2 h3
              rw [get_four (a':=.cells [.slice id off B.length 7 ex2] true) (d':=o) h2,e6 q (by simp at h1 ⊢;omega) h3]
              simp only [← List.cons_append]
              rw [← List.append_assoc]
              exact List.getElem?_append_left (by simpa using h1)
          repeat (first|(with_reducible first|apply X2|apply X8|apply Y2)|((with_reducible first|apply e_end|apply d_end);(simp;exact Rz))|((with_reducible apply O1);rfl;(simp (disch:=omega);exact Rz);exact Rz;(focus (first|(simp;done)|omega|(simp;omega)))))
          exact q_again ⟨(j+1,o2,updI f (lAt g.ls j).id w2,G2),hjl,ho2,hU2⟩ (by dsimp only;omega) (.inl (by simp))
        · have hjl2:¬ (j:Int)<g.ls.length:=by omega
          obtain rfl:j=g.ls.length:=by omega
          have sl3:∀ m,lv.sc (H.length+m)=true:=fun m=>RAt.sc hg.l (by omega)
          repeat (first|(with_reducible first|apply X1|apply X2|apply X4|apply X6|apply X8|apply Y1|apply Y4|apply Y6)|((with_reducible apply e_end);(simp;exact Rz))|((with_reducible apply O1);rfl;(simp (disch:=omega) [hjl2];exact Rz);exact Rz;(focus (first|(simp;done)|omega|(simp;omega))))|((with_reducible apply W3);(simp (disch:=omega) [hjl2];exact Rz)))
          refine e_loop (ι:={ x:Nat × AObj × (Int→Option AV) × Heap // x.1≤B.length∧IMap x.2.1 x.2.2.1∧(∀ id,(∀ i,i<B.length→(bAt B i).s.id≠id)→x.2.2.1 id=none)∧∀ i,i<B.length→(i<x.1∧shI g.ls (bAt B i).s.id=[]→x.2.2.1 (bAt B i).s.id=none)∧(¬ (i<x.1∧shI g.ls (bAt B i).s.id=[])→∃ w,x.2.2.1 (bAt B i).s.id=some w∧AAt (H++.cells [.slice id off B.length 7 ex2] true :: .cells [lv,.int .i64 g.added,.int .i64 g.base,.int .i64 g.jit,rv,kv,.int .i64 g.spread,.bool g.stamp] true :: .cells [.nilslice,.nilslice,.int .i64 0,.int .i64 0,.int .i64 0,.nilslice,.nilslice,.int .i64 0,.bool false,.nilmap] true ::  x.2.1 :: x.2.2.2) 1 w (iv (shI g.ls (bAt B i).s.id)) (shI g.ls (bAt B i).s.id).length∧∀ q,isId w q→H.length+4≤q) })
            (fun x=>[(2,.ptr H.length 0),(3,.ptr (H.length+1) 0),(4,.ptr (H.length+2) 0),(5,.map (H.length+3)),(44,.slice id off B.length 7 ex2),(45,.int .i64 B.length),(46,.int .i64 x.1.1)])
            (fun x=>H++.cells [.slice id off B.length 7 ex2] true :: .cells [lv,.int .i64 g.added,.int .i64 g.base,.int .i64 g.jit,rv,kv,.int .i64 g.spread,.bool g.stamp] true :: .cells [.nilslice,.nilslice,.int .i64 0,.int .i64 0,.int .i64 0,.nilslice,.nilslice,.int .i64 0,.bool false,.nilmap] true ::  x.1.2.1 :: x.1.2.2.2) (fun x=>B.length-x.1.1) ⟨(0,o,f,G),by simp,ho,hU.no,fun i hi=>⟨fun h=>by omega,fun _=>hU.yes i hi⟩⟩ ?_ ?_
          · exact .inl (by simp)
          · clear hU hjl hjl2
            rintro⟨⟨i,o,f,G⟩,hi,ho,hno,hyes⟩
            dsimp only at hi ho hno hyes ⊢
            by_cases hlt:i<B.length
            · have hlt2:(i:Int)<B.length:=by omega
              have hr:=hB.row hlt
              simp only [SP.av,Sc.av] at hr
              have hm0:i * 7+7≤B.length * 7:=by omega
              obtain⟨w,hw1,hw2,hw3⟩:=(hyes i hlt).2 (by omega)
              repeat (first|(with_reducible first|apply X1|apply X2|apply X5|apply X6|apply X8)|((with_reducible apply e_end);(simp;exact Rz))|((first|((with_reducible apply O1);rfl)|((with_reducible apply O2);rfl));(simp (disch:=omega) [hlt,hlt2,rd_old _ hrl,hr];exact Rz);exact Rz;(focus (first|(simp;done)|omega|(simp;omega))))|((with_reducible apply Z9);(simp (disch:=omega) [hlt,hlt2,rd_old _ hrl,hr];exact Rz)))
              refine e_getI (id:=H.length+3) (k:=(bAt B i).s.id) (f:=f) (o:=o) (by simp;exact Rz) (by simp;exact Rz) (by simp) ho ?_
              rw [hw1]
              simp only [Option.getD_some]
              refine O1 rfl (RAt.len hw2.l.r _ (by simp)) Rz trivial ?_
              have hdis:∀ k,k<B.length→(bAt B k).s.id=(bAt B i).s.id→k=i:=fun k hk e=>by
                rcases Nat.lt_trichotomy k i with h|h|h
                · have:=okB_lt hok h hlt;omega
                · exact h
                · have:=okB_lt hok h hk;omega
              by_cases h0:(shI g.ls (bAt B i).s.id).length=0
              · have h0':shI g.ls (bAt B i).s.id=[]:=List.eq_nil_of_length_eq_zero h0
                repeat (first|(with_reducible first|apply X2|apply X8)|((with_reducible apply e_end);(simp;exact Rz))|((with_reducible apply O1);rfl;(simp (disch:=omega) [h0];exact Rz);exact Rz;(focus (first|(simp;done)|omega|(simp;omega))))|((with_reducible apply Z9);(simp (disch:=omega) [h0];exact Rz)))
                refine e_delI (id:=H.length+3) (k:=(bAt B i).s.id) (f:=f) (o:=o) (by simp;exact Rz) (by simp;exact Rz) (by simp) ho (by rw [hw1];rfl) ?_
                intro o2 ho2
                simp only [set_new,List.set_cons_succ,List.set_cons_zero]
                repeat (first|(with_reducible first|apply X2|apply X8|apply Y2)|((with_reducible apply e_end);(simp;exact Rz))|((with_reducible apply O1);rfl;(simp (disch:=omega);exact Rz);exact Rz;(focus (first|(simp;done)|omega|(simp;omega)))))
                refine q_again ⟨(i+1,o2,delI f (bAt B i).s.id,G++[.cells [.int .i64 (bAt B i).s.id,.int .i64 (bAt B i).s.step,.int .i64 (bAt B i).s.gLo,.int .i64 (bAt B i).s.gHi,.int .i64 (bAt B i).s.oLo,.int .i64 (bAt B i).s.oHi,.slice (bAt B i).tid (bAt B i).toff (bAt B i).s.ts.length 2 (bAt B i).ex] true]),hlt,ho2,fun id h=>?_,fun k hk=>⟨fun h=>?_,fun h=>?_⟩⟩ (by dsimp only;omega) (.inl (by simp))
                · dsimp only;rw [delI_at];split
                  · rfl
                  · exact hno id h
                · dsimp only at h ⊢
                  rw [delI_at]
                  split
                  · rfl
                  · rename_i hne
                    have:k≠i:=fun e=>hne (by rw [e])
                    exact (hyes k hk).1 ⟨by omega,h.2⟩
                · dsimp only at h ⊢
                  have hne:k≠i:=fun e=>h ⟨by omega,by rw [e];exact h0'⟩
                  rw [delI_at,if_neg (fun e=>hne (hdis k hk e))]
                  obtain⟨x,a,b,c⟩:=(hyes k hk).2 (fun h2=>h ⟨by omega,h2.2⟩)
                  exact⟨x,a,by
                    have:=(b.keep (h':=H++.cells [.slice id off B.length 7 ex2] true :: .cells [lv,.int .i64 g.added,.int .i64 g.base,.int .i64 g.jit,rv,kv,.int .i64 g.spread,.bool g.stamp] true :: .cells [.nilslice,.nilslice,.int .i64 0,.int .i64 0,.int .i64 0,.nilslice,.nilslice,.int .i64 0,.bool false,.nilmap] true ::  o2 :: G) fun q hq=>get_four (c q hq)).app [.cells [.int .i64 (bAt B i).s.id,.int .i64 (bAt B i).s.step,.int .i64 (bAt B i).s.gLo,.int .i64 (bAt B i).s.gHi,.int .i64 (bAt B i).s.oLo,.int .i64 (bAt B i).s.oHi,.slice (bAt B i).tid (bAt B i).toff (bAt B i).s.ts.length 2 (bAt B i).ex] true]
                    simpa using this,c⟩
              · have h0':shI g.ls (bAt B i).s.id≠[]:=fun h=>h0 (by rw [h];rfl)
                repeat (first|(with_reducible first|apply X2|apply X5|apply X8|apply Y2)|((with_reducible apply e_end);(simp;exact Rz))|((with_reducible apply O1);rfl;(simp (disch:=omega) [h0];exact Rz);exact Rz;(focus (first|(simp;done)|omega|(simp;omega))))|((with_reducible apply W3);(simp (disch:=omega) [h0];exact Rz)))
                refine q_again ⟨(i+1,o,f,G++[.cells [.int .i64 (bAt B i).s.id,.int .i64 (bAt B i).s.step,.int .i64 (bAt B i).s.gLo,.int .i64 (bAt B i).s.gHi,.int .i64 (bAt B i).s.oLo,.int .i64 (bAt B i).s.oHi,.slice (bAt B i).tid (bAt B i).toff (bAt B i).s.ts.length 2 (bAt B i).ex] true]),hlt,ho,hno,fun k hk=>⟨fun h=>?_,fun h=>?_⟩⟩ (by dsimp only;omega) (.inl (by simp))
                · dsimp only at h ⊢
                  have hne:k≠i:=fun e=>h0' (by rw [← e];exact h.2)
                  exact (hyes k hk).1 ⟨by omega,h.2⟩
                · dsimp only at h ⊢
                  obtain⟨x,a,b,c⟩:=(hyes k hk).2 (fun h2=>h ⟨by omega,h2.2⟩)
                  exact⟨x,a,by
                    have:=b.app [.cells [.int .i64 (bAt B i).s.id,.int .i64 (bAt B i).s.step,.int .i64 (bAt B i).s.gLo,.int .i64 (bAt B i).s.gHi,.int .i64 (bAt B i).s.oLo,.int .i64 (bAt B i).s.oHi,.slice (bAt B i).tid (bAt B i).toff (bAt B i).s.ts.length 2 (bAt B i).ex] true]
                    simpa using this,c⟩
            · have hlt2:¬ (i:Int)<B.length:=by omega
              obtain rfl:i=B.length:=by omega
              have scR:∀ {sz v cs n},RAt H sz v cs n→Abs.scal v=true:=fun h=>by
                obtain⟨_,⟨rfl,_⟩|⟨_,_,_,rfl,_⟩⟩:=h <;> rfl
              have c1:=scR hg.l
              have c2:=scR hg.r
              have c3:=scR hg.k
              repeat (first|(with_reducible first|apply X1|apply X2|apply X4|apply X8|apply Y1|apply Y4|apply Y6)|((with_reducible apply e_end);(simp;exact Rz))|((with_reducible apply O1);rfl;(simp (disch:=omega) [hlt2,c1,c2,c3];exact Rz);exact Rz;(focus (first|(simp;done)|omega|(simp;omega))))|((with_reducible apply W3);(simp (disch:=omega) [hlt2,c1,c2,c3];exact Rz)))
              (with_reducible apply O2);rfl;(simp;exact Rz);exact Rz;exact⟨c1,c2,c3⟩
              repeat (first|(with_reducible first|apply X3|apply X8)|((with_reducible apply e_end);(simp;exact Rz)))
              refine q_stay (.inr rfl) (by simp;exact Rz) ⟨H.length+3,_,rfl,by simp,⟨o,f,by simp,ho,fun id h=>?_,fun id h=>?_⟩,by simp⟩
              · by_cases hb:∃ i,i<B.length∧(bAt B i).s.id=id
                · obtain⟨i,hi,rfl⟩:=hb
                  exact (hyes i hi).1 ⟨hi,h⟩
                · exact hno id fun i hi e=>hb ⟨i,hi,e⟩
              · have hb:∃ i,i<B.length∧(bAt B i).s.id=id:=by
                  obtain⟨n,hn⟩:=List.exists_mem_of_ne_nil _ h
                  obtain⟨l,hl,rfl,_⟩:=mem_shI.1 hn
                  obtain⟨k,hk,rfl⟩:=List.mem_iff_getElem.1 hl
                  obtain⟨i,hi,he,_⟩:=hld k hk
                  exact⟨i,hi,by rw [he,lAt_eq hk]⟩
                obtain⟨i,hi,rfl⟩:=hb
                obtain⟨w,a,b,c⟩:=(hyes i hi).2 (fun h2=>h h2.2)
                obtain⟨b1,⟨_,b2⟩|⟨nid,_,rfl,b3⟩⟩:=b
                · exact absurd (List.eq_nil_of_length_eq_zero b2) h
                · refine⟨nid,a,?_⟩
                  have b4:=c nid rfl
                  refine rd_full (b:=true) ?_ b1
                  rw [get_four (a':=.cells [.slice id off B.length 7 ex2] true) (b':=.cells [lv,.int .i64 g.added,.int .i64 g.base,.int .i64 g.jit,rv,kv,.int .i64 g.spread,.bool g.stamp] true) (c':=.cells [.nilslice,.nilslice,.int .i64 0,.int .i64 0,.int .i64 0,.nilslice,.nilslice,.int .i64 0,.bool false,.nilmap] true) (d':=o) b4]
                  exact b3
def usN (B:List SP) (ls:List Ld) (i:Nat):List SP:=(B.take i).filter fun p=>decide (shI ls p.s.id≠[])
theorem usN_succ (B:List SP) (ls:List Ld) {i:Nat} (h:i<B.length):usN B ls (i+1)=if shI ls (bAt B i).s.id≠[] then usN B ls i++[bAt B i] else usN B ls i:=by
  simp only [usN,List.take_succ_eq_append_getElem h,List.filter_append,bAt_eq h,List.filter_cons,List.filter_nil]
  split
  · rename_i h2;rw [if_pos (of_decide_eq_true h2)]
  · rename_i h2;rw [if_neg (by simpa using h2)];simp
theorem usN_len (B:List SP) (ls:List Ld) (i:Nat):(usN B ls i).length≤i:=by
  simp only [usN]
  exact Nat.le_trans (List.length_filter_le _ _) (by simp;omega)
def wV (bv:AV) (g:Gr) (lv rv kv:AV) (mid:Nat):List AV:=bv :: (g.av lv rv kv++[.map mid])
set_option maxHeartbeats 2000000 in
theorem c_inUse (H:Heap) (B:List SP) (id off:Nat) (ex2:Bool) (hB:BayAt H id off B) (hn:(B.length:Int)<1000000) (g:Gr) (lv rv kv:AV) (hg:GAt H g lv rv kv) (mid:Nat) (hW:WAt H B g mid) :
    ACalls Try.prog F.scale_weighing_inUse [.agg (wV (.slice id off B.length 7 ex2) g lv rv kv mid)] H (fun v h'=>∃ G,h'=H++G∧AAt h' 7 v ((usN B g.ls B.length).flatMap SP.av) (usN B g.ls B.length).length):=by
  have hrl:=rd_lt hB.rows
  obtain⟨o,f,ho1,ho2,hno,hyes⟩:=hW.mp
  have hml:=(List.getElem?_eq_some_iff.1 ho1).1
  have sl:∀ m,lv.sc (H.length+m)=true:=fun m=>RAt.sc hg.l (by omega)
  have sr:∀ m,rv.sc (H.length+m)=true:=fun m=>RAt.sc hg.r (by omega)
  have sk:∀ m,kv.sc (H.length+m)=true:=fun m=>RAt.sc hg.k (by omega)
  have sl0:=sl 0
  have sr0:=sr 0
  have sk0:=sk 0
  rw [Nat.add_zero] at sl0 sr0 sk0
  simp only [wV,Gr.av]
  refine acalls_of ok_scale_weighing_inUse rfl fun hcl=>?_
  unfold ac_scale_weighing_inUse zo
  simp only [argsT,Nat.zero_add,Nat.reduceAdd]
  repeat (first|(with_reducible first|apply X1|apply X2|apply X6|apply X8)|((with_reducible apply e_end);(simp;exact Rz))|((with_reducible apply O1);rfl;(simp (disch:=omega);exact Rz);exact Rz;(focus (first|(simp;done)|omega|(simp;omega)))))
  refine e_loop (ι:={ x:Nat × AV × Heap // x.1≤B.length∧AAt (H++.cells [.slice id off B.length 7 ex2,lv,.int .i64 g.added,.int .i64 g.base,.int .i64 g.jit,rv,kv,.int .i64 g.spread,.bool g.stamp,.map mid] true :: x.2.2) 7 x.2.1 ((usN B g.ls x.1).flatMap SP.av) (usN B g.ls x.1).length∧∀ q,isId x.2.1 q→H.length+1≤q })
    (fun x=>[(1,.ptr H.length 0),(3,x.1.2.1),(10,.slice id off B.length 7 ex2),(11,.int .i64 B.length),(12,.int .i64 x.1.1)])
    (fun x=>H++.cells [.slice id off B.length 7 ex2,lv,.int .i64 g.added,.int .i64 g.base,.int .i64 g.jit,rv,kv,.int .i64 g.spread,.bool g.stamp,.map mid] true :: x.1.2.2) (fun x=>B.length-x.1.1) ⟨(0,.nilslice,[]),by simp,AAt.nil _ _,fun q hq=>hq.elim⟩ ?_ ?_
  · exact .inl (by simp)
  · rintro⟨⟨i,v,G⟩,hi,hA,hv⟩
    dsimp only at hi hA hv ⊢
    have sv:∀ m,v.sc (H.length+(G.length+(m+1)))=true:=fun m=>hA.l.sc (by simp)
    have sv0:=sv 0
    rw [Nat.zero_add] at sv0
    have ul:=usN_len B g.ls i
    by_cases hlt:i<B.length
    · have hlt2:(i:Int)<B.length:=by omega
      have hr:=hB.row hlt
      have ht:=rd_lt (hB.trs _ (bAt_mem hlt)).1
      have e1:=usN_succ B g.ls hlt
      have hm0:i * 7+7≤B.length * 7:=by omega
      simp only [SP.av,Sc.av] at hr
      repeat (first|(with_reducible first|apply X1|apply X2|apply X5|apply X6|apply X8)|((with_reducible apply e_end);(simp;exact Rz))|((first|((with_reducible apply O1);rfl)|((with_reducible apply O2);rfl));(simp (disch:=omega) [hlt,hlt2,rd_old _ hrl,hr];exact Rz);exact Rz;(focus (first|(simp;done)|omega|(simp;omega))))|((with_reducible apply Z9);(simp (disch:=omega) [hlt,hlt2,rd_old _ hrl,hr];exact Rz)))
      refine e_getI2 (id:=mid) (k:=(bAt B i).s.id) (f:=f) (o:=o) (by simp;exact Rz) (by simp;exact Rz) (at_oldI _ ho1) ho2 ?_
      by_cases h0:shI g.ls (bAt B i).s.id=[]
      · rw [if_neg (fun h=>h h0)] at e1
        rw [hno _ h0]
        simp only [Option.getD_none,Option.isSome_none]
        repeat (first|(with_reducible first|apply X1|apply X2|apply X5|apply X8|apply Y2)|((with_reducible apply e_end);(simp;exact Rz))|((with_reducible apply O1);rfl;(simp (disch:=omega);exact Rz);exact Rz;(focus (first|(simp;done)|omega|(simp;omega))))|((with_reducible apply W3);(simp (disch:=omega);exact Rz)))
        refine q_again ⟨(i+1,v,_),hlt,?_,hv⟩ (by dsimp only;omega) (.inl (by simp;rfl))
        dsimp only
        rw [e1]
        have:=hA.app [.cells (bAt B i).av true]
        simpa [SP.av,Sc.av] using this
      · rw [if_pos h0] at e1
        obtain⟨nid,hf,hnr⟩:=hyes _ h0
        have hnl:=rd_lt hnr
        rw [hf]
        simp only [Option.getD_some,Option.isSome_some]
        repeat (first|(with_reducible first|apply X1|apply X2|apply X8)|((with_reducible apply e_end);(simp;exact Rz))|((with_reducible apply O1);rfl;(simp (disch:=omega);exact Rz);exact Rz;(focus (first|(simp;done)|omega|(simp;omega))))|((with_reducible apply Z9);(simp (disch:=omega);exact Rz)))
        refine e_appA (A:=H++[.cells [.slice id off B.length 7 ex2,lv,.int .i64 g.added,.int .i64 g.base,.int .i64 g.jit,rv,kv,.int .i64 g.spread,.bool g.stamp,.map mid] true]) (G:=G++[.cells (bAt B i).av true,.cells (bAt B i).av true]) (cs:=(usN B g.ls i).flatMap SP.av) (n:=(usN B g.ls i).length) (m:=1) (new:=(bAt B i).av) (by simp [SP.av,Sc.av]) (by simp;exact Rz) (by simp;exact Rz) (by have:=hA.app [.cells (bAt B i).av true,.cells (bAt B i).av true];simpa [SP.av,Sc.av] using this) (fun q hq=>by have:=hv q hq;simp;omega) (by simp [SP.av,Sc.av]) (by simp [SP.av,Sc.av]) (by omega) (by omega) ?_
        intro G2 v2 e3 e4 _ _ _
        simp only [List.append_assoc,List.cons_append,List.nil_append] at e3 e4 ⊢
        have e5:∀ q,isId v2 q→H.length+1≤q:=fun q hq=>by have:=e4 q hq;simpa using this
        repeat (first|(with_reducible first|apply X2|apply X8|apply Y2)|((with_reducible apply e_end);(simp;exact Rz))|((with_reducible apply O1);rfl;(simp (disch:=omega);exact Rz);exact Rz;(focus (first|(simp;done)|omega|(simp;omega)))))
        refine q_again ⟨(i+1,v2,G2),hlt,?_,e5⟩ (by dsimp only;omega) (.inl (by simp))
        dsimp only
        rw [e1,List.flatMap_append,List.length_append]
        simpa using e3
    · have hlt2:¬ (i:Int)<B.length:=by omega
      obtain rfl:i=B.length:=by omega
      repeat (first|(with_reducible first|apply X1|apply X2|apply X3|apply X4|apply X8|apply Y1|apply Y4|apply Y6)|((with_reducible apply e_end);(simp;exact Rz))|((with_reducible apply O1);rfl;(simp (disch:=omega) [hlt2];exact Rz);exact Rz;(focus (first|(simp;done)|omega|(simp;omega))))|((with_reducible apply W3);(simp (disch:=omega) [hlt2];exact Rz)))
      exact q_stay (.inr rfl) (by simp;exact Rz) ⟨_,rfl,hA⟩
end Go.Proofs
