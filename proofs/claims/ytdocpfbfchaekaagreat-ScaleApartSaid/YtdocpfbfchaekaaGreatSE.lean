/- Several texts as one. -/
import Derived.Test.YtdocpfbfchaekaaGreatSC
import Derived.Test.YtdocpfbfchaekaaGreatRW
/- Scale: weights,and sums of them. -/
namespace Go.Proofs
open Go.Abs
attribute [local simp] AOp.den AOpd.ev lk cellsOf rd_new rd_new0 rd_zero rd_succ wr_new wr_new0 wr_zero wr_succ splice fillA binA scal sliceCells List.length_append argsT AV.sc scL AObj.sc resV getAll AR.get AOp.slots opdSlots opdsSlots partSlots eqAt at_new0 at_new set_new0 set_new wrap64
set_option linter.unusedSimpArgs false
set_option linter.unusedVariables false
theorem c_lightestWith (H:Heap) (g x:Int) (hg:-10≤g∧g≤10) (hx:-10000000≤x∧x≤10000000):ACalls Try.prog F.scale_lightestWith [.int .i64 g,.int .i64 x] H (fun v h'=>v=.int .i64 (lwF g x)∧h'=H):=by
  have hb:=lw_bd hg hx
  have e:(x * 1000+1000+g-1).tdiv (1000+g)=lwF g x:=rfl
  have h0:¬ 1000+g=0:=by omega
  refine acalls_of ok_scale_lightestWith rfl fun hcl=>?_
  unfold ac_scale_lightestWith zo
  simp only [argsT,Nat.zero_add,Nat.reduceAdd]
  repeat (first|(with_reducible first|apply X1|apply X2|apply X3|apply X8)|((with_reducible apply e_end);(simp;exact Rz))|((with_reducible apply O1);rfl;(simp (disch:=omega) [e,h0];exact Rz);exact Rz;(focus (first|(simp;done)|omega|(simp;omega)))))
  refine q_drop0 (.inr rfl) (by simp;exact Rz) (by simp) ⟨rfl,rfl⟩
theorem c_weights (H:Heap) (s:Sc) (tid toff:Nat) (ex:Bool) (ht:tid<H.length) (hs:1≤s.step∧s.step≤500) (g o n:Int) (hg:-10≤g∧g≤10) (ho:-4000000≤o∧o≤4000000) (hn:-2000000≤n∧n≤2000000) :
    ACalls Try.prog F.scale_weights [.agg (s.av tid toff ex),.int .i64 g,.int .i64 o,.int .i64 n] H (fun v h'=>v=.agg [.int .i64 (wtLo g o n),.int .i64 (wtHi s g o n)]∧h'=H):=by
  have hb1:=lw_bd (x:=n-o) hg (by omega)
  have hb2:=lw_bd (x:=n-o+s.step) hg (by omega)
  simp only [Sc.av]
  refine acalls_of ok_scale_weights rfl fun hcl=>?_
  unfold ac_scale_weights zo
  simp only [argsT,Nat.zero_add,Nat.reduceAdd]
  repeat (first|(with_reducible first|apply X1|apply X2|apply X8|apply Y9)|((with_reducible apply e_end);(simp;exact Rz))|((first|((with_reducible apply O1);rfl)|((with_reducible apply P1);rfl));(simp (disch:=omega);exact Rz);exact Rz;(focus (first|(simp;done)|omega|(simp;omega)))))
  (with_reducible apply d_call);(simp;exact Rz);exact c_lightestWith _ _ _ hg (by omega);(focus (first|(simp;done)|(simp;omega)))
  repeat (first|((with_reducible apply P1);rfl;(simp (disch:=omega);exact Rz);exact Rz;(focus (first|(simp;done)|omega|(simp;omega))))|((with_reducible apply P6);rfl;(simp (disch:=omega);exact Rz);exact Rz;(focus (first|(simp [pr];done)|(simp [pr];omega)))))
  (with_reducible apply d_call);(simp;exact Rz);exact c_lightestWith _ _ _ hg (by omega);(focus (first|(simp;done)|(simp;omega)))
  repeat (first|(with_reducible first|apply X1|apply X8|apply Y9)|((with_reducible apply d_end);(simp;exact Rz))|((first|((with_reducible apply P1);rfl)|((with_reducible apply P2);rfl)|((with_reducible apply P3);rfl)|((with_reducible apply P4);rfl));(simp (disch:=omega);exact Rz);exact Rz;(focus (first|(simp;done)|omega|(simp;omega)))))
  (with_reducible apply d_call);(simp;exact Rz);exact c_upto _ _;(focus (first|(simp;done)|(simp;omega)))
  skip
  (with_reducible apply d_call);(simp;exact Rz);exact c_both _ _ _ _ _;(focus (first|(simp;done)|(simp;omega)))
  repeat (first|(with_reducible first|apply X3|apply X8)|((with_reducible apply d_end);(simp;exact Rz))|((with_reducible apply P4);rfl;(simp (disch:=omega);exact Rz);exact Rz;(focus (first|(simp;done)|omega|(simp;omega)))))
  refine q_drop (.inr rfl) (by simp;exact Rz) (by simp) ⟨rfl,rfl⟩
set_option maxHeartbeats 1000000 in
theorem c_sumsS (H:Heap) (s:Sc) (tid toff:Nat) (ex:Bool) (ht:tid<H.length) (hs:1≤s.step∧s.step≤500) (g o:Int) (hg:-10≤g∧g≤10) (ho:-4000000≤o∧o≤4000000) (nid noff:Nat) (nex:Bool) (ns:List Int) (hr:rd H nid noff (ns.length * 1)=some (iv ns)) (hl:(ns.length:Int)<1000000) (hn:∀ n∈ns,-2000000≤n∧n≤2000000) :
    ACalls Try.prog F.scale_sumsOf [.agg (s.av tid toff ex),.int .i64 g,.int .i64 o,.slice nid noff ns.length 1 nex] H (fun v h'=>v=.tuple [.agg [.int .i64 (if okW s ns g o=true then smLo g o ns ns.length else 0),.int .i64 (if okW s ns g o=true then smHi s g o ns ns.length else 0)],.bool (okW s ns g o)]∧h'=H):=by
  have hnl:=rd_lt hr
  have kw:=fun X n hn=>c_weights (H++X) s tid toff ex (by simp;omega) hs g o n hg ho hn
  simp only [Sc.av] at kw ⊢
  refine acalls_of ok_scale_sumsOf rfl fun hcl=>?_
  unfold ac_scale_sumsOf zo
  simp only [argsT,Nat.zero_add,Nat.reduceAdd]
  repeat (first|(with_reducible first|apply X1|apply X2|apply X6|apply X8)|((with_reducible apply e_end);(simp;exact Rz))|((with_reducible apply O1);rfl;(simp (disch:=omega);exact Rz);exact Rz;(focus (first|(simp;done)|omega|(simp;omega)))))
  refine e_loop (ι:={ x:Nat × Heap // x.1≤ns.length∧∀ i,i<x.1→wtLo g o (gI ns i)≤wtHi s g o (gI ns i) })
    (fun x=>[(1,.int .i64 g),(2,.int .i64 o),(4,.ptr H.length 0),(8,.ptr (H.length+1) 0),(10,.ptr (H.length+2) 0),(14,.slice nid noff ns.length 1 nex),(15,.int .i64 ns.length),(16,.int .i64 x.1.1)])
    (fun x=>H++.cells [.int .i64 s.id,.int .i64 s.step,.int .i64 s.gLo,.int .i64 s.gHi,.int .i64 s.oLo,.int .i64 s.oHi,.slice tid toff s.ts.length 2 ex] true :: .cells [.int .i64 0,.int .i64 0] true :: .cells [.int .i64 (smLo g o ns x.1.1),.int .i64 (smHi s g o ns x.1.1)] true :: x.1.2) (fun x=>ns.length-x.1.1) ⟨(0,[]),by simp⟩ ?_ ?_
  · exact .inl (by simp [smLo,smHi])
  · rintro⟨⟨j,G⟩,hj,hk⟩
    dsimp only at hj hk ⊢
    by_cases hlt:j<ns.length
    · have hlt2:(j:Int)<ns.length:=by omega
      have hx:rd H nid (noff+j * 1) 1=some [.int .i64 (gI ns j)]:=by
        have:=rd_sub' hr j 1 (by omega)
        rw [Nat.mul_one,this]
        simp only [iv,List.drop_eq_getElem_cons (show j<(ns.map (AV.int .i64)).length by simpa using hlt),List.take_succ_cons,List.take_zero,List.getElem_map,gI_eq hlt]
      rw [Nat.mul_one] at hx
      have hnj:=hn (gI ns j) (by rw [gI_eq hlt];exact List.getElem_mem _)
      have hwb:=wt_bd hg ho hnj hs
      have hsb:=sm_bd hs hg ho hn j hj hk
      repeat (first|(with_reducible first|apply X1|apply X2|apply X5|apply X6|apply X8)|((with_reducible apply e_end);(simp;exact Rz))|((with_reducible apply O1);rfl;(simp (disch:=omega) [hlt,hlt2,rd_old _ hnl,hx];exact Rz);exact Rz;(focus (first|(simp;done)|omega|(simp;omega))))|((with_reducible apply Z9);(simp (disch:=omega) [hlt,hlt2,rd_old _ hnl,hx];exact Rz)))
      (with_reducible apply e_call);(simp;exact Rz);exact kw _ _ hnj
      rintro _ _ ⟨rfl,rfl⟩
      by_cases hle:wtHi s g o (gI ns j)<wtLo g o (gI ns j)
      · have e:okW s ns g o=false:=by
          rw [Bool.eq_false_iff];intro h;have:=okW_iff.1 h j hlt;omega
        repeat (first|(with_reducible first|apply X1|apply X2|apply X3|apply X8|apply X9|apply Y3|apply Y5)|((with_reducible apply e_end);(simp;exact Rz))|((first|((with_reducible apply O1);rfl)|((with_reducible apply O2);rfl));(simp (disch:=omega) [hle];exact Rz);exact Rz;(focus (first|(simp;done)|omega|(simp;omega))))|((with_reducible apply Z9);(simp (disch:=omega) [hle];exact Rz)))
        refine q_drop (.inr rfl) (by simp;exact Rz) (by simp) ⟨by rw [e];rfl,rfl⟩
      · repeat (first|(with_reducible first|apply X1|apply X2|apply X5|apply X8)|((with_reducible apply e_end);(simp;exact Rz))|((first|((with_reducible apply O1);rfl)|((with_reducible apply O2);rfl));(simp (disch:=omega) [hle];exact Rz);exact Rz;(focus (first|(simp;done)|omega|(simp;omega))))|((with_reducible apply W3);(simp (disch:=omega) [hle];exact Rz)))
        (with_reducible apply e_call);(simp;exact Rz);exact c_plus _ _ _ _ _ (by omega) (by omega) (by omega) (by omega)
        rintro _ _ ⟨rfl,rfl⟩
        repeat (first|(with_reducible first|apply X2|apply X8|apply Y2)|((with_reducible apply e_end);(simp;exact Rz))|((first|((with_reducible apply O1);rfl)|((with_reducible apply O2);rfl));(simp (disch:=omega);exact Rz);exact Rz;(focus (first|(simp;done)|omega|(simp;omega)))))
        refine q_again ⟨(j+1,_),hlt,?_⟩ (by dsimp only;omega) (.inl (by simp;exact⟨⟨rfl,rfl⟩,rfl⟩))
        intro i hi
        rcases Nat.lt_or_ge i j with h|h
        · exact hk i h
        · have:i=j:=by omega
          subst this;omega
    · have hlt2:¬ (j:Int)<ns.length:=by omega
      obtain rfl:j=ns.length:=by omega
      have e:okW s ns g o=true:=okW_iff.2 hk
      repeat (first|(with_reducible first|apply X1|apply X2|apply X3|apply X4|apply X8|apply Y1|apply Y4|apply Y6)|((with_reducible apply e_end);(simp;exact Rz))|((first|((with_reducible apply O1);rfl)|((with_reducible apply O2);rfl));(simp (disch:=omega) [hlt2];exact Rz);exact Rz;(focus (first|(simp;done)|omega|(simp;omega))))|((with_reducible apply W3);(simp (disch:=omega) [hlt2];exact Rz)))
      refine q_drop (.inr rfl) (by simp;exact Rz) (by simp) ⟨by rw [e];rfl,rfl⟩
theorem rd_cong {X H:Heap} {i off n:Nat} (h:X[i]?=H[i]?):rd X i off n=rd H i off n:=by unfold rd;rw [h]
theorem set_left {X G:Heap} {i:Nat} (h:i<X.length) (o:AObj):(X++G).set i o=X.set i o++G:=by rw [List.set_append,if_pos h]
theorem at_left {X G:Heap} {i:Nat} {o:AObj} (h:X[i]?=some o):(X++G)[i]?=some o:=at_oldI G h
theorem rd_whole {X:Heap} {i n:Nat} {cs:List AV} {b:Bool} (h:X[i]?=some (.cells cs b)) (hn:cs.length=n):rd X i 0 n=some cs:=rd_full h hn
def trA:AC:=(.ops [⟨some 4,.alloc [.int .i64 0,.int .i64 0,.int .i64 0],none⟩,⟨none,.store (.t 4) 3 (.t 10),none⟩] (some [1,2,3,4]))
def trB:AC:=(.block 1 (.seq (.ops [⟨some 11,.fieldAddr (.t 4) 1,none⟩,⟨some 12,.fieldAddr (.t 11) 0,none⟩,⟨some 13,.load1 (.t 12),none⟩,⟨some 5,.mov (.t 13),none⟩] (some [1,2,3,4,5])) (.block 2 (.loop (.seq (.seq (.ops [⟨some 14,.mov (.t 5),none⟩,⟨some 15,.fieldAddr (.t 4) 1,none⟩,⟨some 16,.fieldAddr (.t 15) 1,none⟩,⟨some 17,.load1 (.t 16),none⟩,⟨some 18,.bin .leq (.t 14) (.t 17),none⟩] (some [1,2,3,4,5,18])) (.cond (.t 18) (.skip) (.exit 2))) (.seq (.block 3 (.seq (.ops [⟨some 22,.loadN (.t 1) 7,none⟩,⟨some 23,.fieldAddr (.t 4) 0,none⟩,⟨some 24,.load1 (.t 23),none⟩,⟨some 25,.mov (.t 5),none⟩,⟨some 26,.fieldAddr (.t 2) 9,none⟩,⟨some 27,.load1 (.t 26),none⟩,⟨some 28,.fieldAddr (.t 1) 0,none⟩,⟨some 29,.load1 (.t 28),none⟩,⟨some 30,.mapGet false (.nilslice) (.one (.int)) (.t 27) (.t 29),none⟩,⟨some 31,.callF F.scale_sumsOf [.t 22,.t 24,.t 25,.t 30],none⟩,⟨some 21,.mov (.t 31),none⟩,⟨some 32,.extract (.t 21) 0,none⟩,⟨some 33,.extract (.t 21) 1,none⟩,⟨some 6,.alloc [.int .i64 0,.int .i64 0],none⟩,⟨none,.store (.t 6) 2 (.t 32),none⟩,⟨some 7,.mov (.t 33),none⟩] (some [1,2,3,4,5,6,7])) (.seq (.ops [⟨some 34,.mov (.t 7),none⟩,⟨some 35,.mov (.t 34),none⟩,⟨some 36,.load1 (.t 3),some (35,true)⟩,⟨some 37,.fieldAddr (.t 4) 0,some (35,true)⟩,⟨some 38,.load1 (.t 37),some (35,true)⟩,⟨some 39,.mov (.t 5),some (35,true)⟩,⟨some 40,.loadN (.t 6) 2,some (35,true)⟩,⟨some 41,.build [.int .i64 0,.int .i64 0,.int .i64 0,.int .i64 0] [(0,1,.t 38),(1,1,.t 39),(2,2,.t 40)],some (35,true)⟩,⟨some 42,.callV (.t 36) [.t 41],some (35,true)⟩,⟨some 43,.not (.t 42),some (35,true)⟩,⟨some 44,.pick (.t 35) (.t 43) (.c (.bool false)),none⟩] (some [1,2,3,4,5,44])) (.cond (.t 44) (.ret) (.skip))))) (.ops [⟨some 19,.mov (.t 5),none⟩,⟨some 20,.bin .add (.t 19) (.c (.int .i64 1)),none⟩,⟨some 5,.mov (.t 20),none⟩] (some [1,2,3,4,5]))))))))
def trT0 (B:Nat) (sp wp:Nat):List (Nat × AV):=[(1,.ptr sp 0),(2,.ptr wp 0),(3,.ptr B 0),(9,.fn (.func F.scale_tunes_1) [] [.ptr (B+1) 0])]
structure TrF (N0 sp wp tid toff:Nat) (ex:Bool) (s:Sc) (ns:List Int) (H:Heap):Prop where
  n0:N0≤H.length
  sl:sp<N0
  sq:rd H sp 0 7=some (s.av tid toff ex)
  tl:tid<N0
  tq:rd H tid toff (s.ts.length * 2)=some (s.ts.flatMap Ti.av)
  wl:wp<N0
  mq:∃ mid o f nid noff nex,rd H wp 9 1=some [.map mid]∧mid<N0∧H[mid]?=some o∧IMap o f∧f s.id=some (.slice nid noff ns.length 1 nex)∧nid<N0∧rd H nid noff (ns.length * 1)=some (iv ns)
theorem TrF.to {N0 sp wp tid toff:Nat} {ex:Bool} {s:Sc} {ns:List Int} {H X:Heap} (h:TrF N0 sp wp tid toff ex s ns H) (hl:H.length≤X.length) (hk:∀ i,i<N0→X[i]?=H[i]?):TrF N0 sp wp tid toff ex s ns X:=by
  obtain⟨a,b,c,d,e,f,mid,o,g,nid,noff,nex,m1,m2,m3,m4,m5,m6,m7⟩:=h
  exact⟨by omega,b,by rw [rd_cong (hk _ b)];exact c,d,by rw [rd_cong (hk _ d)];exact e,f,mid,o,g,nid,noff,nex,by rw [rd_cong (hk _ f)];exact m1,m2,by rw [hk _ m2];exact m3,m4,m5,m6,by rw [rd_cong (hk _ m6)];exact m7⟩
structure Tak (N0 y:Nat) (s:Sc) (ns:List Int) (H:Heap) (Inv:List (Int × Int)→AV→Heap→Prop):Prop where
  yl:y<H.length
  app:∀ L v X G,Inv L v X→Inv L v (X++G)
  set:∀ L v X i o,H.length≤i→¬ isId v i→Inv L v X→Inv L v (X.set i o)
  keep:∀ L v X,Inv L v X→H.length≤X.length∧∀ i,i<N0→X[i]?=H[i]?
  lt:∀ L v X,Inv L v X→∀ i,isId v i→i<X.length
  yield:∀ L v x X,L.length<100000→Inv L v X→AYields Try.prog y [.agg [.int .i64 x.1,.int .i64 x.2,.int .i64 (smP s ns x).1,.int .i64 (smP s ns x).2]] X (fun r h'=>r=.bool true∧X.length≤h'.length∧∃ v',Inv (L++[x]) v' h'∧(∀ i,isId v' i→X.length≤i)∧∀ i,H.length≤i→i<X.length→¬ isId v i→h'[i]?=X[i]?)
theorem oN_le {s:Sc} (hs:s.ok) (k:Nat):oN s (s.gLo+k)≤201:=by
  have h1:=hs.b
  simp only [Sc.built] at h1
  have h2:=o_in s (s.gLo+k) s.ts.length
  simp only [oN];omega
theorem trK_len (s:Sc) (ns:List Int) (k j:Nat):(trK s ns k j).length≤j:=by
  simp only [trK,List.length_map,TO]
  exact Nat.le_trans (List.length_filter_le _ _) (by simp)
theorem trT_len {s:Sc} (hs:s.ok) (ns:List Int) (L:List Nat):(trT s ns L).length≤L.length * 201:=by
  induction L with
  | nil=>simp [trT]
  | cons k L ih =>
    have h1:=trK_len s ns k (oN s (s.gLo+k))
    have h2:=oN_le hs k
    simp only [trT,List.flatMap_cons,List.length_append,List.length_cons] at ih ⊢
    omega
def InvQ (H:Heap) (y sp wp tid toff:Nat) (ex:Bool) (s:Sc) (ns:List Int) (Inv:List (Int × Int)→AV→Heap→Prop) (L:List Nat) (X:Heap):Prop :=
  H.length+3≤X.length∧X[H.length]?=some (.cells [.yield y] true)∧X[H.length+1]?=some (.cells (s.av tid toff ex) true)∧X[H.length+2]?=some (.other (.loop (trT0 H.length sp wp) [10] trA trB .ready))∧∃ v,Inv (trT s ns L) v X∧∀ i,isId v i→H.length+3≤i
set_option maxHeartbeats 4000000 in
theorem y_truths {H:Heap} {N0 y sp wp tid toff:Nat} {ex:Bool} {s:Sc} {ns:List Int} (hs:s.ok) (hF:TrF N0 sp wp tid toff ex s ns H) (hn:∀ n∈ns,-2000000≤n∧n≤2000000) (hl:(ns.length:Int)<1000000)
    {Inv:List (Int × Int)→AV→Heap→Prop} (hT:Tak N0 y s ns H Inv) (k:Nat) (X:Heap) (hk:k<s.gs) (hy:tunB s (s.gLo+k)=true) (hI:InvQ H y sp wp tid toff ex s ns Inv (TG s k) X) :
    AYields Try.prog (H.length+2) [.agg (tunV s k)] X (fun v h'=>v=.bool true∧InvQ H y sp wp tid toff ex s ns Inv (TG s (k+1)) h'):=by
  obtain⟨hX,x0,x1,x2,v,hv,hvi⟩:=hI
  have hb:=hs.b
  simp only [Sc.built] at hb
  have hgs:=gs_eq hs
  have e1:=TG_succ s k
  rw [if_pos hy] at e1
  have hg:-10≤s.gLo+k∧s.gLo+k≤10:=by omega
  have hTl:=trT_len hs ns (TG s k)
  have hGl:=TG_len s k
  have hgs2:s.gs≤21:=by omega
  have hoN:=oN_le hs k
  have hoi:=o_in s (s.gLo+k) s.ts.length
  refine y_of (t:=trT0 H.length sp wp) (ps:=[10]) (a:=trA) (b:=trB) x2 rfl fun hcl=>?_
  unfold trA
  simp only [roundT,trT0,List.zip_cons_cons,List.zip_nil_left,List.foldl_cons,List.foldl_nil,List.zip_nil_right,tunV]
  repeat (first|(with_reducible apply X2)|((with_reducible apply e_end);(simp;exact Rz))|((first|((with_reducible apply O1);rfl)|((with_reducible apply O2);rfl));(simp (disch:=omega);exact Rz);exact Rz;(focus (first|(simp;done)|omega|(simp;omega)))))
  refine q_begin (tt:=trT0 H.length sp wp) (ps:=[10]) (a':=trA) (b':=trB) (h2:=X.set (H.length+2) (.other (.loop (trT0 H.length sp wp) [10] trA trB .busy))++[.cells (tunV s k) true]) (by rw [at_left x2];exact Rz) (by rw [set_left (by omega)];exact Rz) ?_
  have hYI:=hT.set _ v X (H.length+2) (.other (.loop (trT0 H.length sp wp) [10] trA trB .busy)) (by omega) (fun h=>by have:=hvi _ h;omega) hv
  have y0:(X.set (H.length+2) (.other (.loop (trT0 H.length sp wp) [10] trA trB .busy)))[H.length]?=some (.cells [.yield y] true):=by rw [List.getElem?_set,if_neg (by omega)];exact x0
  have y1:(X.set (H.length+2) (.other (.loop (trT0 H.length sp wp) [10] trA trB .busy)))[H.length+1]?=some (.cells (s.av tid toff ex) true):=by rw [List.getElem?_set,if_neg (by omega)];exact x1
  have y2:(X.set (H.length+2) (.other (.loop (trT0 H.length sp wp) [10] trA trB .busy)))[H.length+2]?=some (.other (.loop (trT0 H.length sp wp) [10] trA trB .busy)):=by rw [List.getElem?_set,if_pos rfl,if_pos (by omega)]
  have hYL:(X.set (H.length+2) (.other (.loop (trT0 H.length sp wp) [10] trA trB .busy))).length=X.length:=List.length_set
  have yl:H.length+3≤(X.set (H.length+2) (.other (.loop (trT0 H.length sp wp) [10] trA trB .busy))).length:=by rw [List.length_set];exact hX
  generalize X.set (H.length+2) (.other (.loop (trT0 H.length sp wp) [10] trA trB .busy))=Y at *
  clear x0 x1 x2 hv hX
  simp only [tunV]
  rw [← hYL]
  unfold trB
  repeat (first|(with_reducible first|apply X1|apply X2|apply X6|apply X8)|((with_reducible apply e_end);(simp;exact Rz))|((with_reducible apply O1);rfl;(simp (disch:=omega);exact Rz);exact Rz;(focus (first|(simp;done)|omega|(simp;omega)))))
  have hoA:oLoF s (s.gLo+k) s.ts.length=oAt s k:=rfl
  have vlt:=hT.lt _ _ _ hYI
  refine e_loop (ι:={ x:Nat × AV × Heap // x.1≤oN s (s.gLo+k)∧Inv (trT s ns (TG s k)++trK s ns k x.1) x.2.1 x.2.2∧Y.length<x.2.2.length∧(∀ i,isId x.2.1 i→H.length+3≤i∧i≠Y.length)∧x.2.2[H.length]?=some (.cells [.yield y] true)∧x.2.2[H.length+1]?=some (.cells (s.av tid toff ex) true)∧x.2.2[H.length+2]?=some (.other (.loop (trT0 H.length sp wp) [10] trA trB .busy))∧x.2.2[Y.length]?=some (.cells [.int .i64 (s.gLo+k),.int .i64 (oLoF s (s.gLo+k) s.ts.length),.int .i64 (oHiF s (s.gLo+k) s.ts.length)] true) })
    (fun x=>[(1,.ptr sp 0),(2,.ptr wp 0),(3,.ptr H.length 0),(4,.ptr Y.length 0),(5,.int .i64 (oAt s k+(x.1.1:Int)))]) (fun x=>x.1.2.2) (fun x=>oN s (s.gLo+k)-x.1.1)
    ⟨(0, v, Y ++ [.cells [.int .i64 (s.gLo + k), .int .i64 (oLoF s (s.gLo + k) s.ts.length), .int .i64 (oHiF s (s.gLo + k) s.ts.length)] true]), by
      refine⟨by simp,by rw [trK_zero,List.append_nil];exact hT.app _ _ _ _ hYI,by simp,fun i hi=>⟨hvi i hi,by have:=vlt i hi;omega⟩,at_left y0,at_left y1,at_left y2,by simp⟩⟩ ?_ ?_
  · exact .inl (by simp [hoA])
  · rintro⟨⟨j,v,Z⟩,hj,hZI,zl,zv,z0,z1,z2,z3⟩
    dsimp only at hj hZI zl zv z0 z1 z2 z3 ⊢
    have zlt:=hT.lt _ _ _ hZI
    have zr3:=rd_whole z3 (n:=3) rfl
    have zr1:rd Z Y.length 2 1=some [.int .i64 (oHiF s (s.gLo+k) s.ts.length)]:=by have:=rd_sub' zr3 2 1 (by omega);simpa using this
    have zr0:rd Z Y.length 0 1=some [.int .i64 (s.gLo+k)]:=by have:=rd_sub' zr3 0 1 (by omega);simpa using this
    have zy:rd Z H.length 0 1=some [.yield y]:=rd_whole z0 rfl
    by_cases hlt:j<oN s (s.gLo+k)
    · have hlt2:oAt s k+j≤oHiF s (s.gLo+k) s.ts.length:=by simp only [oN,oAt] at hlt ⊢;omega
      have hFZ:=hF.to (X:=Z) (hT.keep _ _ _ hZI).1 (hT.keep _ _ _ hZI).2
      obtain⟨mid,o,f,nid,noff,nex,m1,m2,m3,m4,m5,m6,m7⟩:=hFZ.mq
      have hsq:=hFZ.sq
      have hsl:sp<Z.length:=rd_lt hsq
      have hsid:rd Z sp 0 1=some [.int .i64 s.id]:=by have:=rd_sub' hsq 0 1 (by omega);simpa [Sc.av] using this
      simp only [Sc.av] at hsq
      repeat (first|(with_reducible first|apply X1|apply X2|apply X5|apply X6|apply X8)|((with_reducible apply e_end);(simp;exact Rz))|((with_reducible apply O1);rfl;(simp (disch:=omega) [zr1,hlt2,hsq,zr0,m1,hsid];exact Rz);exact Rz;(focus (first|(simp;done)|omega|(simp;omega))))|((with_reducible apply Z9);(simp (disch:=omega) [zr1,hlt2,hsq,zr0,m1,hsid];exact Rz)))
      refine e_getI (k:=s.id) (f:=f) (o:=o) (by simp;exact Rz) (by simp;exact Rz) m3 m4 ?_
      rw [m5]
      simp only [Option.getD_some]
      have kS:=c_sumsS Z s tid toff ex (by have:=hFZ.tl;have:=hFZ.n0;omega) hb.2.1 (s.gLo+k) (oAt s k+j) hg (by simp only [oAt];omega) nid noff nex ns m7 hl hn
      simp only [Sc.av] at kS
      skip
      (with_reducible apply e_call);(simp;exact Rz);exact kS
      rintro _ hqh ⟨rfl,hqe⟩
      rw [hqe];clear hqe hqh
      have e2:=trK_succ s ns k j
      have tl:=trK_len s ns k j
      cases hok:okW s ns (s.gLo+k) (oAt s k+j) with
      | false =>
        rw [hok] at e2
        simp only [Bool.false_eq_true,if_false] at e2 ⊢
        repeat (first|(with_reducible first|apply X1|apply X2|apply X5|apply X8|apply Y2)|((with_reducible apply e_end);(simp;exact Rz))|((first|((with_reducible apply O1);rfl)|((with_reducible apply O2);rfl));(simp (disch:=omega);exact Rz);exact Rz;(focus (first|(simp;done)|omega|(simp;omega))))|((with_reducible apply Z1);(simp (disch:=omega);exact Rz))|((with_reducible apply W3);(simp (disch:=omega);exact Rz)))
        refine q_again ⟨(j+1,v,Z++[.cells [.int .i64 0,.int .i64 0] true]),hlt,?_,by simp;omega,zv,at_left z0,at_left z1,at_left z2,at_left z3⟩ (by dsimp only;omega) (.inl (by simp;omega))
        dsimp only
        rw [e2];exact hT.app _ _ _ _ hZI
      | true =>
        rw [hok] at e2
        simp only [if_true] at e2 ⊢
        repeat (first|(with_reducible first|apply X1|apply X2|apply X8)|((with_reducible apply e_end);(simp;exact Rz))|((first|((with_reducible apply O1);rfl)|((with_reducible apply O2);rfl));(simp (disch:=omega) [rd_old _ (show H.length<Z.length by omega),rd_old _ zl,zy,zr0];exact Rz);exact Rz;(focus (first|(simp;done)|omega|(simp;omega))))|((with_reducible apply Z7);(simp (disch:=omega) [rd_old _ (show H.length<Z.length by omega),rd_old _ zl,zy,zr0];exact Rz)))
        (with_reducible apply e_callY);(simp;exact Rz);(simp;exact Rz);exact hT.yield _ v (s.gLo+k,oAt s k+j) _ (by simp only [List.length_append];omega) (hT.app _ _ _ _ hZI)
        rintro _ Z2 ⟨rfl,hl2,v2,hI2,hf2,hk2⟩
        simp only [List.length_append,List.length_cons,List.length_nil,Nat.zero_add] at hl2 hf2 hk2
        repeat (first|(with_reducible first|apply X2|apply X5|apply X8|apply Y2)|((with_reducible apply e_end);(simp;exact Rz))|((with_reducible apply O1);rfl;(simp (disch:=omega);exact Rz);exact Rz;(focus (first|(simp;done)|omega|(simp;omega))))|((with_reducible apply Z7);(simp (disch:=omega);exact Rz))|((with_reducible apply W3);(simp (disch:=omega);exact Rz)))
        refine q_again ⟨(j+1,v2,Z2),hlt,?_,by dsimp only;omega,?_,?_,?_,?_,?_⟩ (by dsimp only;omega) (.inl (by simp;omega))
        · dsimp only
          rw [e2,← List.append_assoc];exact hI2
        · intro i hi
          have:=hf2 i hi
          exact⟨by omega,by omega⟩
        · dsimp only
          rw [hk2 _ (by omega) (by omega) (fun h=>by have:=(zv _ h).1;omega)];exact at_left z0
        · dsimp only
          rw [hk2 _ (by omega) (by omega) (fun h=>by have:=(zv _ h).1;omega)];exact at_left z1
        · dsimp only
          rw [hk2 _ (by omega) (by omega) (fun h=>by have:=(zv _ h).1;omega)];exact at_left z2
        · dsimp only
          rw [hk2 _ (by omega) (by omega) (fun h=>(zv _ h).2 rfl)];exact at_left z3
    · have hlt2:¬ oAt s k+j≤oHiF s (s.gLo+k) s.ts.length:=by simp only [oN,oAt] at hlt hj ⊢;omega
      obtain rfl:j=oN s (s.gLo+k):=by omega
      repeat (first|(with_reducible first|apply X1|apply X2|apply X4|apply X8|apply Y1|apply Y2|apply Y4|apply Y6)|((with_reducible apply e_end);(simp;exact Rz))|((with_reducible apply O1);rfl;(simp (disch:=omega) [zr1,hlt2];exact Rz);exact Rz;(focus (first|(simp;done)|omega|(simp;omega))))|((with_reducible apply W3);(simp (disch:=omega) [zr1,hlt2];exact Rz)))
      refine q_end (tt:=trT0 H.length sp wp) (ps:=[10]) (a:=trA) (b:=trB) (h2:=Z.set (H.length+2) (.other (.loop (trT0 H.length sp wp) [10] trA trB .ready))) (by rw [z2];exact Rz) Rz (.inl rfl) ⟨rfl,?_⟩
      refine⟨by rw [List.length_set];omega,by rw [List.getElem?_set,if_neg (by omega)];exact z0,by rw [List.getElem?_set,if_neg (by omega)];exact z1,by rw [List.getElem?_set,if_pos rfl,if_pos (by omega)],v,?_,fun i hi=>(zv i hi).1⟩
      rw [e1,trT_app]
      exact hT.set _ _ _ _ _ (by omega) (fun h=>by have:=(zv _ h).1;omega) hZI
set_option maxHeartbeats 2000000 in
theorem c_truths1 {H:Heap} {N0 y sp wp tid toff:Nat} {ex:Bool} {s:Sc} {ns:List Int} (hs:s.ok) (hF:TrF N0 sp wp tid toff ex s ns H) (hn:∀ n∈ns,-2000000≤n∧n≤2000000) (hl:(ns.length:Int)<1000000)
    {Inv:List (Int × Int)→AV→Heap→Prop} (hT:Tak N0 y s ns H Inv) (h0:Inv [] .nilslice H) :
    ACalls Try.prog F.scale_weighing_truths_1 [.yield y,.ptr sp 0,.ptr wp 0] H (fun _ h'=>∃ v,Inv (trs s ns) v h'):=by
  have hql:=rd_lt hF.sq
  have htl:tid<H.length:=rd_lt hF.tq
  have hsp:=hF.sq
  have hwl:wp<H.length:=by have:=hF.wl;have:=hF.n0;omega
  have kt:=fun X=>c_tunes (H++X) s tid toff ex (by simp;omega)
  have key:=c_tunes1 (H++[.cells [.yield y] true,.cells (s.av tid toff ex) true,.other (.loop (trT0 H.length sp wp) [10] trA trB .ready)]) (H.length+2) (H.length+1) tid toff ex s hs (InvQ H y sp wp tid toff ex s ns Inv)
    (fun L X G h=>by
      obtain⟨a,b,c,d,v,e,f⟩:=h
      exact⟨by simp;omega,at_left b,at_left c,at_left d,v,hT.app _ _ _ _ e,f⟩)
    (fun L X h=>by
      obtain⟨a,b,c,d,v,e,f⟩:=h
      have hFX:=hF.to (hT.keep _ _ _ e).1 (hT.keep _ _ _ e).2
      exact⟨by omega,rd_whole c rfl,hFX.tq⟩)
    (fun k X hk hy hI=>y_truths hs hF hn hl hT k X hk hy hI)
    ⟨by simp,by simp,by simp,by simp,.nilslice,hT.app _ _ _ _ h0,fun i hi=>hi.elim⟩
  simp only [trT0,trA,trB] at key
  simp only [Sc.av] at hsp kt
  refine acalls_of ok_scale_weighing_truths_1 rfl fun hcl=>?_
  unfold ac_scale_weighing_truths_1 zo
  simp only [argsT,Nat.zero_add,Nat.reduceAdd]
  repeat (first|(with_reducible first|apply X1|apply X2|apply X8)|((with_reducible apply e_end);(simp;exact Rz))|((with_reducible apply O1);rfl;(simp (disch:=omega) [rd_old _ hql,hsp];exact Rz);exact Rz;(focus (first|(simp;done)|omega|(simp;omega)))))
  (with_reducible apply e_call);(simp;exact Rz);exact kt _
  rintro _ _ ⟨rfl,rfl⟩
  repeat (first|(with_reducible first|apply X6|apply X8)|((with_reducible apply e_end);(simp;exact Rz)))
  refine e_range (R:=fun _ h'=>InvQ H y sp wp tid toff ex s ns Inv (TG s s.gs) h') (by simp;exact Rz) (by simp [tSc] <;> omega) (by simp;exact Rz) ?_ ?_
  · simpa [Sc.av] using key
  · rintro _ Z ⟨a,b,c,d,v,e,f⟩
    refine range_end (by rw [show (H++[AObj.cells [.yield y] true]++[AObj.cells [.int .i64 s.id,.int .i64 s.step,.int .i64 s.gLo,.int .i64 s.gHi,.int .i64 s.oLo,.int .i64 s.oHi,.slice tid toff s.ts.length 2 ex] true]).length=H.length+2 by simp,d];exact Rz) Rz ?_
    repeat (with_reducible apply Y2)
    exact q_stay (v:=.tuple []) (.inl rfl) (by simp;exact Rz) ⟨v,hT.set _ _ _ _ _ (by simp) (fun h=>by have:=f _ h;simp at this) e⟩
def rowT (s:Sc) (ns:List Int) (x:Int × Int):List AV:=[.int .i64 x.1,.int .i64 x.2,.int .i64 (smP s ns x).1,.int .i64 (smP s ns x).2]
theorem rowT_len (s:Sc) (ns:List Int) (x:Int × Int):(rowT s ns x).length=4:=rfl
def rowsT (s:Sc) (ns:List Int) (L:List (Int × Int)):List AV:=L.flatMap (rowT s ns)
theorem rowsT_app (s:Sc) (ns:List Int) (L:List (Int × Int)) (x:Int × Int):rowsT s ns (L++[x])=rowsT s ns L++rowT s ns x:=by simp [rowsT]
theorem rowsT_plain (s:Sc) (ns:List Int):∀ L,Plain (rowsT s ns L)
  | []=>Plain.nil
  | x :: L=>by
    have:=rowsT_plain s ns L
    exact Plain.app (xs:=rowT s ns x) ⟨rfl,fun _=>rfl,fun _=>rfl⟩ this
def asA:AC:=(.ops [⟨some 5,.alloc [.int .i64 0,.int .i64 0,.int .i64 0,.int .i64 0],none⟩,⟨none,.store (.t 5) 4 (.t 7),none⟩] (some [2,5]))
def asB:AC:=(.block 1 (.ops [⟨some 8,.load1 (.t 2),none⟩,⟨some 9,.loadN (.t 5) 4,none⟩,⟨some 10,.buildSlice [.int .i64 0,.int .i64 0,.int .i64 0,.int .i64 0] [(0,4,.t 9)] 1 4,none⟩,⟨some 11,.append (.t 8) (.t 10) 4 32,none⟩,⟨none,.store (.t 2) 1 (.t 11),none⟩] (some [])))
def asT (B sp wp:Nat):List (Nat × AV):=[(2,.ptr B 0),(4,.nilslice),(6,.fn (.func F.scale_weighing_truths_1) [] [.ptr sp 0,.ptr wp 0])]
def asO (B sp wp:Nat) (ph:Phase):AObj:=.other (.loop (asT B sp wp) [7] asA asB ph)
def InvA (H:Heap) (sp wp:Nat) (s:Sc) (ns:List Int) (L:List (Int × Int)) (v:AV) (X:Heap):Prop :=
  ∃ G,X=H++.cells [v] true :: asO H.length sp wp .ready :: G∧AAt X 4 v (rowsT s ns L) L.length∧∀ i,isId v i→H.length+2≤i
set_option maxHeartbeats 2000000 in
theorem y_AppT (H:Heap) (sp wp:Nat) (s:Sc) (ns:List Int) (L:List (Int × Int)) (v:AV) (x:Int × Int) (X:Heap) (hL:L.length<100000) (hI:InvA H sp wp s ns L v X) :
    AYields Try.prog (H.length+1) [.agg [.int .i64 x.1,.int .i64 x.2,.int .i64 (smP s ns x).1,.int .i64 (smP s ns x).2]] X (fun r h'=>r=.bool true∧X.length≤h'.length∧∃ v',InvA H sp wp s ns (L++[x]) v' h'∧(∀ i,isId v' i→X.length≤i)∧∀ i,(H++[.cells [.nilslice] true,asO H.length sp wp .ready]).length≤i→i<X.length→¬ isId v i→h'[i]?=X[i]?):=by
  obtain⟨G,rfl,hA,hi⟩:=hI
  refine y_of (t:=asT H.length sp wp) (ps:=[7]) (a:=asA) (b:=asB) (by simp [asO]) rfl fun hcl=>?_
  unfold asA
  simp only [roundT,asT,List.zip_cons_cons,List.zip_nil_left,List.foldl_cons,List.foldl_nil,List.zip_nil_right]
  repeat (first|(with_reducible apply X2)|((with_reducible apply e_end);(simp;exact Rz))|((first|((with_reducible apply O1);rfl)|((with_reducible apply O2);rfl));(simp (disch:=omega);exact Rz);exact Rz;(focus (first|(simp;done)|omega|(simp;omega)))))
  refine q_begin (tt:=asT H.length sp wp) (ps:=[7]) (a':=asA) (b':=asB) (h2:=H++.cells [v] true :: asO H.length sp wp .busy :: (G++[.cells (rowT s ns x) true])) (by simp [asO];exact Rz) (by simp [asO,rowT,Red]) ?_
  simp only [rowT]
  unfold asB
  repeat (first|(with_reducible first|apply X2|apply X6)|((with_reducible apply O1);rfl;(simp (disch:=omega);exact Rz);exact Rz;(focus (first|(simp;done)|omega|(simp;omega)))))
  refine e_appA (A:=H++[.cells [v] true,asO H.length sp wp .busy]) (G:=G++[.cells (rowT s ns x) true,.cells (rowT s ns x) true]) (cs:=rowsT s ns L) (n:=L.length) (m:=1) (new:=rowT s ns x) (by simp [rowT]) (by simp;exact Rz) (by simp;exact Rz) ?_ (fun q hq=>by have:=hi q hq;simp;omega) (by simp [Nat.add_assoc,rowT]) (by simp [rowT]) (by omega) (by omega) ?_
  · have:=(hA.app [.cells (rowT s ns x) true,.cells (rowT s ns x) true]).keep (h':=(H++.cells [v] true :: asO H.length sp wp .busy :: G)++[.cells (rowT s ns x) true,.cells (rowT s ns x) true]) fun i h=>by
      simp only [List.append_assoc,List.cons_append];exact get_two (hi i h)
    simpa [rowT] using this
  intro G2 v2 e3 e4 e6 e7 e8
  simp only [List.append_assoc,List.cons_append,List.nil_append] at e3 e4 e6 e7 e8 ⊢
  have e5:∀ q,isId v2 q→H.length+2≤q:=fun q hq=>by have:=e4 q hq;simpa using this
  have s2:∀ m,v2.sc (H.length+(G2.length+(m+2)))=true:=fun m=>e3.l.sc (by simp;omega)
  obtain⟨id2,rfl⟩:∃ id2,v2=.slice id2 0 (L.length+1) 4 false:=by
    obtain⟨_,⟨_,h⟩|⟨id,_,e,_⟩⟩:=e3
    · omega
    · exact⟨id,e⟩
  repeat (first|(with_reducible apply Y2)|((with_reducible apply e_end);(simp;exact Rz))|((with_reducible apply O2);rfl;(simp (disch:=omega);exact Rz);exact Rz;(focus (first|(simp;done)|omega|(simp;omega)))))
  refine q_end (tt:=asT H.length sp wp) (ps:=[7]) (a:=asA) (b:=asB) (h2:=H++.cells [.slice id2 0 (L.length+1) 4 false] true :: asO H.length sp wp .ready :: G2) (by simp [asO];exact Rz) (by simp [asO,Red]) (.inl rfl) ⟨rfl,?_,_,⟨G2,rfl,?_,e5⟩,?_,?_⟩
  · simp at e8 ⊢;omega
  · rw [rowsT_app,List.length_append]
    exact e3.keep fun i h=>get_two (e5 i h)
  · intro i hi2
    have:=e7 i hi2
    simp at this ⊢;omega
  · intro i h1 h2 h3
    simp only [List.length_append,List.length_cons,List.length_nil] at h1 h2
    have h4:=e6 i (by simp;omega) h3
    rw [get_two (a':=.cells [.slice id2 0 (L.length+1) 4 false] true) (b':=asO H.length sp wp .ready) (by omega)] at h4
    rw [h4,get_two (a':=.cells [v] true) (b':=asO H.length sp wp .ready) (by omega)]
    simp only [← List.cons_append]
    rw [← List.append_assoc]
    exact List.getElem?_append_left (by simp;omega)
theorem tak_App (H:Heap) (sp wp:Nat) (s:Sc) (ns:List Int):Tak H.length (H.length+1) s ns (H++[.cells [.nilslice] true,asO H.length sp wp .ready]) (InvA H sp wp s ns) where
  yl:=by simp
  app:=by
    rintro L v X G ⟨G1,rfl,h1,h2⟩
    exact⟨G1++G,by simp,h1.app G,h2⟩
  set:=by
    rintro L v X i o hi hv ⟨G1,rfl,h1,h2⟩
    simp only [List.length_append,List.length_cons,List.length_nil] at hi
    obtain⟨j,rfl⟩:∃ j,i=H.length+(j+1+1):=⟨i-H.length-2,by omega⟩
    have e:(H++AObj.cells [v] true :: asO H.length sp wp .ready :: G1).set (H.length+(j+1+1)) o=H++AObj.cells [v] true :: asO H.length sp wp .ready :: G1.set j o:=by simp
    refine⟨G1.set j o,e,?_,h2⟩
    refine h1.keep fun q hq=>?_
    rw [List.getElem?_set,if_neg (fun h=>hv (by rw [h];exact hq))]
  keep:=by
    rintro L v X ⟨G1,rfl,_,_⟩
    exact⟨by simp,fun i hi=>by rw [List.getElem?_append_left hi,List.getElem?_append_left hi]⟩
  lt:=by
    rintro L v X ⟨G1,rfl,h1,_⟩ i hi
    exact h1.l.lt hi
  yield:=fun L v x X hL hI=>y_AppT H sp wp s ns L v x X hL hI
set_option maxHeartbeats 2000000 in
theorem c_AppT {H:Heap} {sp wp tid toff:Nat} {ex:Bool} {s:Sc} {ns:List Int} (hs:s.ok) (hF:TrF H.length sp wp tid toff ex s ns H) (hn:∀ n∈ns,-2000000≤n∧n≤2000000) (hl:(ns.length:Int)<1000000) :
    ACalls Try.prog F.slices_AppendSeq_scale_truth_scale_truth [.nilslice,.fn (.func F.scale_weighing_truths_1) [] [.ptr sp 0,.ptr wp 0]] H (fun v h'=>∃ G,h'=H++G∧AAt h' 4 v (rowsT s ns (trs s ns)) (trs s ns).length∧∀ i,isId v i→H.length≤i):=by
  have hsl:sp<H.length:=by have:=hF.sl;omega
  have hwl:wp<H.length:=by have:=hF.wl;omega
  have hF2:TrF H.length sp wp tid toff ex s ns (H++[.cells [.nilslice] true,asO H.length sp wp .ready]):=hF.to (by simp) fun i hi=>List.getElem?_append_left hi
  have key:=c_truths1 hs hF2 hn hl (tak_App H sp wp s ns) ⟨[],rfl,AAt.nil _ _,fun i hi=>hi.elim⟩
  simp only [asO,asT,asA,asB] at key
  refine acalls_of ok_slices_AppendSeq_scale_truth_scale_truth rfl fun hcl=>?_
  unfold ac_slices_AppendSeq_scale_truth_scale_truth zo
  simp only [argsT,Nat.zero_add,Nat.reduceAdd]
  repeat (first|(with_reducible first|apply X1|apply X2|apply X6|apply X8)|((with_reducible apply e_end);(simp;exact Rz))|((with_reducible apply O1);rfl;(simp (disch:=omega);exact Rz);exact Rz;(focus (first|(simp;done)|omega|(simp;omega)))))
  refine e_range (R:=fun _ h'=>∃ v,InvA H sp wp s ns (trs s ns) v h') (by simp;exact Rz) (by simp [tSc] <;> omega) (by simp;exact Rz) ?_ ?_
  · simpa using key
  · rintro _ _ ⟨v,G,rfl,hA,hi⟩
    simp only [asO,asT,asA,asB]
    refine range_end (by simp;exact Rz) (by simp;exact Rz) ?_
    have s2:∀ m,v.sc (H.length+(G.length+(m+2)))=true:=fun m=>hA.l.sc (by simp;omega)
    have s3:Abs.scal v=true:=by
      obtain⟨_,⟨rfl,_⟩|⟨_,_,rfl,_⟩⟩:=hA <;> rfl
    repeat (first|(with_reducible first|apply X1|apply X2|apply X3|apply X8|apply Y2)|((with_reducible apply e_end);(simp;exact Rz))|((with_reducible apply O1);rfl;(simp (disch:=omega);exact Rz);exact Rz;(focus (first|(simp;done)|omega|(simp;omega)))))
    exact q_stay (.inr rfl) (by simp;exact Rz) ⟨_,rfl,hA.keep fun i h=>get_two (hi i h),fun i h=>by have:=hi i h;omega⟩
theorem c_CollT {H:Heap} {sp wp tid toff:Nat} {ex:Bool} {s:Sc} {ns:List Int} (hs:s.ok) (hF:TrF H.length sp wp tid toff ex s ns H) (hn:∀ n∈ns,-2000000≤n∧n≤2000000) (hl:(ns.length:Int)<1000000) :
    ACalls Try.prog F.slices_Collect_scale_truth [.fn (.func F.scale_weighing_truths_1) [] [.ptr sp 0,.ptr wp 0]] H (fun v h'=>v=lsV H 4 (trs s ns).length∧h'=H++lsO (trs s ns).length (rowsT s ns (trs s ns))):=by
  have hsl:sp<H.length:=by have:=hF.sl;omega
  have hwl:wp<H.length:=by have:=hF.wl;omega
  have kA:=c_AppT hs hF hn hl
  refine acalls_of ok_slices_Collect_scale_truth rfl fun hcl=>?_
  unfold ac_slices_Collect_scale_truth zo
  simp only [argsT,Nat.zero_add,Nat.reduceAdd]
  repeat (first|(with_reducible first|apply X1|apply X2|apply X8)|((with_reducible apply e_end);(simp;exact Rz))|((with_reducible apply O1);rfl;(simp (disch:=omega);exact Rz);exact Rz;(focus (first|(simp;done)|omega|(simp;omega)))))
  (with_reducible apply e_call);(simp;exact Rz);exact kA
  rintro v _ ⟨G,rfl,hA,hi⟩
  have s2:v.sc (H.length+G.length)=true:=hA.l.sc (by simp)
  repeat (first|(with_reducible first|apply X3|apply X8)|((with_reducible apply e_end);(simp;exact Rz))|((with_reducible apply O1);rfl;(simp (disch:=omega);exact Rz);exact Rz;(focus (first|(simp;done)|omega|(simp;omega)))))
  exact q_post (.inr rfl) (by simp;exact Rz) (le_ls (sz:=4) (fun x=>x) (fun _ _=>rfl) (fun _ _ h=>h) (rowsT_plain s ns _) hA hi) ⟨rfl,rfl⟩
def pv (x:Int × Int):List AV:=[.int .i64 x.1,.int .i64 x.2]
def pvs (L:List (Int × Int)):List AV:=L.flatMap pv
theorem pvs_app (L M:List (Int × Int)):pvs (L++M)=pvs L++pvs M:=by simp [pvs]
theorem pvs_len (L:List (Int × Int)):(pvs L).length=L.length * 2:=by
  induction L with
  | nil=>rfl
  | cons x L ih=>simp only [pvs,List.flatMap_cons,List.length_append,List.length_cons] at ih ⊢;rw [ih];simp [pv,Nat.add_mul];omega
theorem pvs_plain:∀ L,Plain (pvs L)
  | []=>Plain.nil
  | x :: L=>Plain.app (xs:=pv x) ⟨rfl,fun _=>rfl,fun _=>rfl⟩ (pvs_plain L)
theorem wr_at {X:Heap} {id off:Nat} {cs vs:List AV} (h:X[id]?=some (.cells cs true)) (ho:off+vs.length≤cs.length):wr X id off vs=some (X.set id (.cells (splice cs off vs) true)):=by
  unfold wr;rw [h];simp only [ho,if_true]
def meR (p:Nat→Bool) (a:Int) (i:Nat):List (Int × Int):=(ruS p i).1.map (fun x=>(a+(x.1:Int),a+(x.2:Int)))++(match (ruS p i).2 with|some s=>[(a+(s:Int),a+(s:Int))]|none=>[])
theorem meR_none {p:Nat→Bool} {a:Int} {i:Nat} (h:(ruS p i).2=none):meR p a i=ruL p i a:=by simp [meR,h,ruL]
theorem ru_len (p:Nat→Bool):∀ i,(ruS p i).1.length+(match (ruS p i).2 with|some _=>1|none=>0)≤i
  | 0=>by simp [ruS]
  | i+1=>by
    have ih:=ru_len p i
    simp only [ruS]
    cases hp:p i <;> cases ho:(ruS p i).2 <;> simp only [ho] at ih ⊢ <;> simp <;> omega
theorem meR_len (p:Nat→Bool) (a:Int) (i:Nat):(meR p a i).length≤i:=by
  have:=ru_len p i
  simp only [meR,List.length_append,List.length_map]
  cases ho:(ruS p i).2 <;> simp only [ho] at this ⊢ <;> simp <;> omega
def ocF (c:Nat→Int):Nat→Int
  | 0=>0
  | i+1=>c i
theorem ru_oc {c:Nat→Int} {i:Nat} (h0:∀ i,0≤c i):(ruS (fun i=>decide (0<c i)) i).2.isSome=true↔0<ocF c i:=by
  rw [ruS_open]
  cases i with
  | zero=>simp [ocF]
  | succ k =>
    constructor
    · rintro⟨j,h1,h2⟩
      have:j=k:=by omega
      subst this;simpa [ocF] using h2
    · intro h;exact⟨k,rfl,by simpa [ocF] using h⟩
theorem me_A {c:Nat→Int} {a:Int} {i:Nat} (h0:∀ i,0≤c i) (h1:ocF c i=0) (h2:0<c i):meR (fun i=>decide (0<c i)) a (i+1)=meR (fun i=>decide (0<c i)) a i++[(a+(i:Int),a+(i:Int))]:=by
  have hn:=ru_oc (i:=i) h0
  have ho:(ruS (fun i=>decide (0<c i)) i).2=none:=by
    cases h:(ruS (fun i=>decide (0<c i)) i).2 with
    | none=>rfl
    | some s=>rw [h] at hn;have:=hn.1 rfl;omega
  simp only [meR,ruS,ho,decide_eq_true h2,List.append_nil]
theorem me_B {c:Nat→Int} {a:Int} {i:Nat} (h0:∀ i,0≤c i) (h1:0<ocF c i) (h2:c i=0):∃ (M:List (Int × Int)) (x:Int),meR (fun i=>decide (0<c i)) a i=M++[(x,x)]∧meR (fun i=>decide (0<c i)) a (i+1)=M++[(x,a+(i:Int)-1)]:=by
  have hn:=(ru_oc (i:=i) h0).2 h1
  have hi:1≤i:=by
    cases i with
    | zero=>simp [ocF] at h1
    | succ k=>omega
  cases ho:(ruS (fun i=>decide (0<c i)) i).2 with
  | none=>rw [ho] at hn;cases hn
  | some s =>
    refine⟨(ruS (fun i=>decide (0<c i)) i).1.map (fun x=>(a+(x.1:Int),a+(x.2:Int))),a+(s:Int),by simp only [meR,ho],?_⟩
    have hp:decide (0<c i)=false:=decide_eq_false (by omega)
    simp only [meR,ruS,ho,hp,List.map_append,List.map_cons,List.map_nil,List.append_nil]
    rw [show a+((i-1:Nat):Int)=a+(i:Int)-1 by omega]
theorem me_C {c:Nat→Int} {a:Int} {i:Nat} (h0:∀ i,0≤c i) (h:(0<ocF c i∧0<c i)∨(ocF c i=0∧c i=0)):meR (fun i=>decide (0<c i)) a (i+1)=meR (fun i=>decide (0<c i)) a i:=by
  have hn:=ru_oc (i:=i) h0
  rcases h with⟨h1,h2⟩|⟨h1,h2⟩
  · cases ho:(ruS (fun i=>decide (0<c i)) i).2 with
    | none=>rw [ho] at hn;have:=hn.2 h1;cases this
    | some s=>simp only [meR,ruS,ho,decide_eq_true h2]
  · have hp:decide (0<c i)=false:=decide_eq_false (by omega)
    cases ho:(ruS (fun i=>decide (0<c i)) i).2 with
    | none=>simp only [meR,ruS,ho,hp]
    | some s=>rw [ho] at hn;have:=hn.1 rfl;omega
theorem sp_last (M:List (Int × Int)) (x y z:Int):splice (pvs (M++[(x,y)])) (M.length * 2+1) [.int .i64 z]=pvs (M++[(x,z)]):=by
  have hl:=pvs_len M
  rw [pvs_app,pvs_app]
  have e1:List.take (M.length * 2+1) (pvs M++pvs [(x,y)])=pvs M++[.int .i64 x]:=by
    rw [List.take_append,List.take_of_length_le (by omega),hl,show M.length * 2+1-M.length * 2=1 by omega]
    rfl
  have e2:List.drop (M.length * 2+1+1) (pvs M++pvs [(x,y)])=[]:=List.drop_eq_nil_of_le (by rw [List.length_append,hl,pvs_len];simp)
  simp only [splice,List.length_cons,List.length_nil,Nat.zero_add,e1,e2]
  simp [pvs,pv]
set_option maxHeartbeats 2000000 in
theorem c_covered (H:Heap) (id n:Nat) (ex:Bool) (d c:Nat→Int) (a:Int) (hid:H[id]?=some (.cells (avL d n) true)) (hn:(n:Int)<100000000000) (hc0:c 0=d 0) (hc:∀ i,c (i+1)=c i+d (i+1)) (hcb:∀ i,0≤c i∧c i≤10000000000000000) (ha:-100000000000≤a∧a≤100000000000)
    (he:(ruS (fun i=>decide (0<c i)) n).2=none) :
    ACalls Try.prog F.scale_covered [.slice id 0 n 1 ex,.int .i64 a] H (fun v h'=>v=lsV H 2 (ruL (fun i=>decide (0<c i)) n a).length∧h'=H++lsO (ruL (fun i=>decide (0<c i)) n a).length (pvs (ruL (fun i=>decide (0<c i)) n a))):=by
  have hil:=(List.getElem?_eq_some_iff.1 hid).1
  refine acalls_of ok_scale_covered rfl fun hcl=>?_
  unfold ac_scale_covered zo
  simp only [argsT,Nat.zero_add,Nat.reduceAdd]
  repeat (first|(with_reducible first|apply X1|apply X2|apply X6|apply X8)|((with_reducible apply e_end);(simp;exact Rz))|((with_reducible apply O1);rfl;(simp (disch:=omega);exact Rz);exact Rz;(focus (first|(simp;done)|omega|(simp;omega)))))
  refine e_loop (ι:={ x:Nat × AV × Heap // x.1≤n∧AAt (H++x.2.2) 2 x.2.1 (pvs (meR (fun i=>decide (0<c i)) a x.1)) (meR (fun i=>decide (0<c i)) a x.1).length∧∀ q,isId x.2.1 q→H.length≤q })
    (fun x=>[(1,.int .i64 a),(5,x.1.2.1),(6,.int .i64 (ocF c x.1.1)),(9,.slice id 0 n 1 ex),(10,.int .i64 n),(11,.int .i64 x.1.1)]) (fun x=>H++x.1.2.2) (fun x=>n-x.1.1) ⟨(0,.nilslice,[]),by simp,AAt.nil _ _,fun q hq=>hq.elim⟩ ?_ ?_
  · exact .inl (by simp [ocF])
  · rintro⟨⟨i,v,G⟩,hi,hA,hv⟩
    dsimp only at hi hA hv ⊢
    by_cases hlt:i<n
    · have hlt2:(i:Int)<n:=by omega
      have hx:rd H id i 1=some [.int .i64 (d i)]:=by
        rw [rd_cellsK hid (by rw [avL_length];omega)]
        have hl:i<((List.range n).map fun j=>AV.int .i64 (d j)).length:=by simpa using hlt
        rw [avL,List.drop_eq_getElem_cons hl,List.take_succ_cons,List.take_zero]
        simp
      have hci:c i=ocF c i+d i:=by
        cases i with
        | zero=>simp [ocF,hc0]
        | succ k=>exact hc k
      have hcb1:=hcb i
      have hoc:0≤ocF c i∧ocF c i≤10000000000000000:=by
        cases i with
        | zero=>simp [ocF]
        | succ k=>exact hcb k
      have sv:∀ m,v.sc (H.length+(G.length+m))=true:=fun m=>hA.l.sc (by simp)
      have sv0:=sv 0
      rw [Nat.add_zero] at sv0
      have h0:∀ i,0≤c i:=fun i=>(hcb i).1
      have ml:=meR_len (fun i=>decide (0<c i)) a i
      have ocs:ocF c (i+1)=c i:=rfl
      by_cases h1:ocF c i=0∧0<d i
      · have d0:¬ ocF c i+d i=0:=by omega
        have d1:¬ d i<0:=by omega
        have e1:=me_A (a:=a) h0 h1.1 (by omega)
        repeat (first|(with_reducible first|apply X1|apply X2|apply X5|apply X6|apply X8)|((with_reducible apply e_end);(simp;exact Rz))|((with_reducible apply O1);rfl;(simp (disch:=omega) [hlt,hlt2,rd_old _ hil,hx,h1.1,h1.2];exact Rz);exact Rz;(focus (first|(simp;done)|omega|(simp;omega))))|((with_reducible first|apply Z7|apply Z9);(simp (disch:=omega) [hlt,hlt2,rd_old _ hil,hx,h1.1,h1.2];exact Rz)))
        (with_reducible apply e_call);(simp;exact Rz);exact c_one _ _
        rintro _ _ ⟨rfl,rfl⟩
        repeat ((with_reducible apply O1);rfl;(simp (disch:=omega);exact Rz);exact Rz;(focus (first|(simp;done)|omega|(simp;omega))))
        refine e_appA (A:=H) (G:=G++[.cells (pv (a+(i:Int),a+(i:Int))) true]) (cs:=pvs (meR (fun i=>decide (0<c i)) a i)) (n:=(meR (fun i=>decide (0<c i)) a i).length) (m:=1) (new:=pv (a+(i:Int),a+(i:Int))) (by simp [pv]) (by simp;exact Rz) (by simp;exact Rz) (by have:=hA.app [.cells (pv (a+(i:Int),a+(i:Int))) true];simpa [pv] using this) hv (by simp [pv]) (by simp [pv]) (by omega) (by omega) ?_
        intro G2 v2 e3 e4 _ e6 _
        have sv2:∀ m,v2.sc (H.length+(G2.length+m))=true:=fun m=>e3.l.sc (by simp)
        have sv20:=sv2 0
        rw [Nat.add_zero] at sv20
        repeat (first|(with_reducible first|apply X1|apply X2|apply X5|apply X8|apply Y2)|((with_reducible apply e_end);(simp;exact Rz))|((with_reducible apply O1);rfl;(simp (disch:=omega) [d0,d1];exact Rz);exact Rz;(focus (first|(simp;done)|omega|(simp;omega))))|((with_reducible apply Z1);(simp (disch:=omega) [d0,d1];exact Rz))|((with_reducible apply W3);(simp (disch:=omega) [d0,d1];exact Rz)))
        refine q_again ⟨(i+1,v2,G2),hlt,?_,e4⟩ (by dsimp only;omega) (.inl (by simp [ocs,hci]))
        dsimp only
        rw [e1,pvs_app,List.length_append]
        simpa [pvs] using e3
      · by_cases h2:c i=0∧d i<0
        · obtain⟨M,x,e1,e2⟩:=me_B (a:=a) h0 (show 0<ocF c i by omega) h2.1
          have o0:¬ ocF c i=0:=by omega
          have o2:ocF c i+d i=0:=by omega
          have hml:(meR (fun i=>decide (0<c i)) a i).length=M.length+1:=by rw [e1];simp
          rw [hml] at hA
          obtain⟨hc2,⟨_,h5⟩|⟨id2,_,rfl,hh⟩⟩:=hA
          · omega
          have hiv:H.length≤id2:=hv id2 rfl
          have hlt3:=(List.getElem?_eq_some_iff.1 hh).1
          repeat (first|(with_reducible first|apply X1|apply X2|apply X5|apply X6|apply X8)|((with_reducible apply e_end);(simp;exact Rz))|((with_reducible apply O1);rfl;(simp (disch:=omega) [hlt,hlt2,rd_old _ hil,hx,o0,o2,h2.2];exact Rz);exact Rz;(focus (first|(simp;done)|omega|(simp;omega))))|((with_reducible first|apply Z7|apply Z9);(simp (disch:=omega) [hlt,hlt2,rd_old _ hil,hx,o0,o2,h2.2];exact Rz))|((with_reducible apply Z1);(simp (disch:=omega) [hlt,hlt2,rd_old _ hil,hx,o0,o2,h2.2];exact Rz))|((with_reducible apply W3);(simp (disch:=omega) [hlt,hlt2,rd_old _ hil,hx,o0,o2,h2.2];exact Rz)))
          have hw:wr (H++G) id2 (M.length * 2+1) [.int .i64 (a+i-1)]=some ((H++G).set id2 (.cells (pvs (M++[(x,a+(i:Int)-1)])) true)):=by
            rw [wr_at hh (by rw [pvs_len,hml];simp;omega),e1,sp_last]
          (with_reducible apply O2);rfl;(simp [hw];exact Rz);exact Rz;(simp)
          obtain⟨G2,hG2⟩:=ext_of (A:=H) (h':=(H++G).set id2 (.cells (pvs (M++[(x,a+(i:Int)-1)])) true)) (by simp) (fun k hk=>by rw [List.getElem?_set,if_neg (by omega),List.getElem?_append_left hk])
          have hg2:(H++G2)[id2]?=some (.cells (pvs (M++[(x,a+(i:Int)-1)])) true):=by rw [← hG2,List.getElem?_set,if_pos rfl,if_pos hlt3]
          have hle2:id2<(H++G2).length:=(List.getElem?_eq_some_iff.1 hg2).1
          rw [hG2]
          simp only [List.length_append] at hle2
          repeat (first|(with_reducible first|apply X2|apply X8|apply Y2)|((with_reducible apply e_end);(simp;exact Rz))|((with_reducible apply O1);rfl;(simp (disch:=omega);exact Rz);exact Rz;(focus (first|(simp;done)|omega|(simp;omega)))))
          refine q_again ⟨(i+1,.slice id2 0 (M.length+1) 2 false,G2),hlt,?_,hv⟩ (by dsimp only;omega) (.inl (by simp [ocs,h2.1]))
          dsimp only
          rw [e2]
          exact⟨by rw [pvs_len],.inr ⟨id2,by simp,by simp,hg2⟩⟩
        · have hC:(0<ocF c i∧0<c i)∨(ocF c i=0∧c i=0):=by
            by_cases h3:0<c i
            · exact .inl ⟨by
                refine Int.not_le.1 fun h4=>h1 ⟨by omega,by omega⟩,h3⟩
            · have h5:c i=0:=by omega
              refine .inr ⟨?_,h5⟩
              have h4:¬ d i<0:=fun h=>h2 ⟨h5,h⟩
              omega
          have e1:=me_C (a:=a) h0 hC
          have t1:¬ (ocF c i=0∧0<d i):=h1
          by_cases o0:ocF c i=0
          · have d0:¬ 0<d i:=fun h=>h1 ⟨o0,h⟩
            have d1:¬ d i<0:=by omega
            have d2:d i=0:=by omega
            repeat (first|(with_reducible first|apply X1|apply X2|apply X5|apply X6|apply X8|apply Y2)|((with_reducible apply e_end);(simp;exact Rz))|((with_reducible apply O1);rfl;(simp (disch:=omega) [hlt,hlt2,rd_old _ hil,hx,o0,d0,d1,d2];exact Rz);exact Rz;(focus (first|(simp;done)|omega|(simp;omega))))|((with_reducible first|apply Z7|apply Z9);(simp (disch:=omega) [hlt,hlt2,rd_old _ hil,hx,o0,d0,d1,d2];exact Rz))|((with_reducible apply W3);(simp (disch:=omega) [hlt,hlt2,rd_old _ hil,hx,o0,d0,d1,d2];exact Rz)))
            refine q_again ⟨(i+1,v,G),hlt,by rw [e1];exact hA,hv⟩ (by dsimp only;omega) (.inl (by simp [ocs,hci,o0,d2]))
          · have o2:¬ ocF c i+d i=0:=by
              rcases hC with h|h <;> omega
            repeat (first|(with_reducible first|apply X1|apply X2|apply X5|apply X6|apply X8|apply Y2)|((with_reducible apply e_end);(simp;exact Rz))|((with_reducible apply O1);rfl;(simp (disch:=omega) [hlt,hlt2,rd_old _ hil,hx,o0,o2];exact Rz);exact Rz;(focus (first|(simp;done)|omega|(simp;omega))))|((with_reducible apply Z9);(simp (disch:=omega) [hlt,hlt2,rd_old _ hil,hx,o0,o2];exact Rz))|((with_reducible apply Z1);(simp (disch:=omega) [hlt,hlt2,rd_old _ hil,hx,o0,o2];exact Rz))|((with_reducible apply W3);(simp (disch:=omega) [hlt,hlt2,rd_old _ hil,hx,o0,o2];exact Rz)))
            refine q_again ⟨(i+1,v,G),hlt,by rw [e1];exact hA,hv⟩ (by dsimp only;omega) (.inl (by simp [ocs,hci]))
    · have hlt2:¬ (i:Int)<n:=by omega
      obtain rfl:i=n:=by omega
      repeat (first|(with_reducible first|apply X1|apply X2|apply X3|apply X4|apply X8|apply Y1|apply Y4|apply Y6)|((with_reducible apply e_end);(simp;exact Rz))|((with_reducible apply O1);rfl;(simp (disch:=omega) [hlt2];exact Rz);exact Rz;(focus (first|(simp;done)|omega|(simp;omega))))|((with_reducible apply W3);(simp (disch:=omega) [hlt2];exact Rz)))
      rw [meR_none he] at hA
      exact q_post (.inr rfl) (by simp;exact Rz) (le_ls (sz:=2) (fun x=>x) (fun _ _=>rfl) (fun _ _ h=>h) (pvs_plain _) hA hv) ⟨rfl,rfl⟩
end Go.Proofs
