/- Several texts as one. -/
import Derived.Test.YtdocpfbfchaekaaGreatSD
import Derived.Test.YtdocpfbfchaekaaGreatSG
/- Scale: gear in new memory;whether something is ready. -/
namespace Go.Proofs
open Go.Abs
attribute [local simp] AOp.den AOpd.ev lk cellsOf rd_new rd_new0 rd_zero rd_succ wr_new wr_new0 wr_zero wr_succ splice fillA binA scal sliceCells List.length_append argsT AV.sc scL AObj.sc resV getAll AR.get AOp.slots opdSlots opdsSlots partSlots eqAt at_new0 at_new set_new0 set_new wrap64
set_option linter.unusedSimpArgs false
set_option linter.unusedVariables false
theorem Cano.within {M:List (Int × Int)} (hM:Cano M) {a b:Int} (hab:a≤b) (h:∀ n,a≤n→n≤b→inL M n):∃ y∈M,y.1≤a∧b≤y.2:=by
  obtain⟨y,hy,h1,h2⟩:=h a (Int.le_refl _) hab
  refine⟨y,hy,h1,Int.not_lt.1 fun hlt=>?_⟩
  obtain⟨z,hz,h3,h4⟩:=h (y.2+1) (by omega) (by omega)
  obtain⟨i,hi,rfl⟩:=mem_gP hy
  obtain⟨j,hj,rfl⟩:=mem_gP hz
  rcases Nat.lt_trichotomy i j with hij|hij|hij
  · have:=hM.lt hij hj;omega
  · subst hij;omega
  · have:=hM.lt hij hi
    have:=hM.le _ (gP_mem hi)
    omega
theorem c_ready (H:Heap) (B:List SP) (id off:Nat) (ex2:Bool) (hB:BayAt H id off B) (hn:(B.length:Int)<1000000) (g:Gr) (lv rv kv:AV) (hg:GAt H g lv rv kv) {b:Bool} (hb:b=true↔¬ grt B g∧chE B g=0) :
    ACalls Try.prog F.law04_ready [.agg [.slice id off B.length 7 ex2],.agg (g.av lv rv kv)] H (fun v h'=>v=.bool b∧h'=H):=by
  have hrl:=rd_lt hB.rows
  have sl:∀ m,lv.sc (H.length+m)=true:=fun m=>RAt.sc hg.l (by omega)
  have sr:∀ m,rv.sc (H.length+m)=true:=fun m=>RAt.sc hg.r (by omega)
  have sk:∀ m,kv.sc (H.length+m)=true:=fun m=>RAt.sc hg.k (by omega)
  have sl0:=sl 0
  have sr0:=sr 0
  have sk0:=sk 0
  rw [Nat.add_zero] at sl0 sr0 sk0
  obtain⟨b1,h1⟩:=bof (grt B g)
  have kG:=fun X=>c_r4Great (H++X) B id off ex2 (hB.app X).rows g lv rv kv (hg.app X).l (hg.app X).r (hg.app X).k h1
  have kC:=fun X=>c_r4Check (H++X) B id off ex2 (hB.app X) hn g lv rv kv (hg.app X)
  simp only [Gr.av] at kG kC ⊢
  refine acalls_of ok_law04_ready rfl fun hcl=>?_
  unfold ac_law04_ready zo
  simp only [argsT,Nat.zero_add,Nat.reduceAdd]
  repeat (first|(with_reducible first|apply X1|apply X2|apply X8)|((with_reducible apply e_end);(simp;exact Rz))|((with_reducible apply O1);rfl;(simp (disch:=omega);exact Rz);exact Rz;(focus (first|(simp;done)|omega|(simp;omega)))))
  (with_reducible apply e_call);(simp;exact Rz);exact kG _
  rintro _ _ ⟨rfl,rfl⟩
  cases b1 with
  | true =>
    repeat (first|(with_reducible first|apply X3|apply X8)|((with_reducible apply e_end);(simp;exact Rz))|((with_reducible apply O1);rfl;(simp (disch:=omega);exact Rz);exact Rz;(focus (first|(simp;done)|omega|(simp;omega))))|((with_reducible apply Z1);(simp (disch:=omega);exact Rz)))
    refine q_drop (.inr rfl) (by simp;exact Rz) (by simp) ⟨by rw [AV.bool.injEq];cases b;rfl;exact absurd (h1.1 rfl) (hb.1 rfl).1,rfl⟩
  | false =>
    repeat (first|((with_reducible apply O1);rfl;(simp (disch:=omega);exact Rz);exact Rz;(focus (first|(simp;done)|omega|(simp;omega))))|((with_reducible apply Z7);(simp (disch:=omega);exact Rz)))
    (with_reducible apply e_call);(simp;exact Rz);exact kC _
    rintro _ _ ⟨rfl,rfl⟩
    by_cases h0:chE B g=0
    · repeat (first|(with_reducible first|apply X3|apply X8)|((with_reducible apply e_end);(simp;exact Rz))|((with_reducible apply O1);rfl;(simp (disch:=omega) [h0];exact Rz);exact Rz;(focus (first|(simp;done)|omega|(simp;omega))))|((with_reducible apply Z7);(simp (disch:=omega) [h0];exact Rz)))
      refine q_drop (.inr rfl) (by simp;exact Rz) (by simp) ⟨by rw [AV.bool.injEq];exact (hb.2 ⟨fun h=>absurd (h1.2 h) (by decide),h0⟩).symm,rfl⟩
    · repeat (first|(with_reducible first|apply X3|apply X8)|((with_reducible apply e_end);(simp;exact Rz))|((with_reducible apply O1);rfl;(simp (disch:=omega) [h0];exact Rz);exact Rz;(focus (first|(simp;done)|omega|(simp;omega))))|((with_reducible apply Z7);(simp (disch:=omega) [h0];exact Rz)))
      refine q_drop (.inr rfl) (by simp;exact Rz) (by simp) ⟨by rw [AV.bool.injEq];cases b;rfl;exact absurd (hb.1 rfl).2 h0,rfl⟩
set_option maxHeartbeats 2000000 in
theorem c_among (H:Heap) (a c:AV) (L M:List (Int × Int)) (ha:RAt H 2 a (pvs L) L.length) (hc:RAt H 2 c (pvs M) M.length) (hL:(L.length:Int)<1000000000000) (hM:(M.length:Int)<1000000000000) (hall:∀ x∈L,∃ y∈M,y.1≤x.1∧x.2≤y.2) :
    ACalls Try.prog F.law04_among [a,c] H (fun v h'=>v=.bool true∧h'=H):=by
  have sa:=ha.sc (Nat.le_refl _)
  have sc:=hc.sc (Nat.le_refl _)
  have row:∀ {v} {N:List (Int × Int)},RAt H 2 v (pvs N) N.length→∀ i,i<N.length→∃ id off ex,v=.slice id off N.length 2 ex∧id<H.length∧rd H id (off+i * 2) 2=some (pv (gP N i)):=fun hv i hi=>by
    obtain⟨id,off,ex,e,hr⟩:=hv.slice (by omega)
    have:=rd_row (f:=pv) (k:=2) (fun _=>rfl) hr hi
    rw [← gP_eq hi] at this
    exact⟨id,off,ex,e,rd_lt hr,this⟩
  refine acalls_of ok_law04_among rfl fun hcl=>?_
  unfold ac_law04_among zo
  simp only [argsT,Nat.zero_add,Nat.reduceAdd]
  repeat (first|(with_reducible first|apply X1|apply X2|apply X8)|((with_reducible apply e_end);(simp;exact Rz))|((with_reducible apply O1);rfl;(simp (disch:=omega);exact Rz);exact Rz;(focus (first|(simp;done)|omega|(simp;omega)))))
  refine O1 rfl (RAt.len ha _ (by simp)) Rz trivial ?_
  repeat (first|(with_reducible first|apply X6|apply X8)|((with_reducible apply e_end);(simp;exact Rz))|((with_reducible apply O1);rfl;(simp (disch:=omega);exact Rz);exact Rz;(focus (first|(simp;done)|omega|(simp;omega)))))
  refine e_loop (ι:={ x:Nat × Heap // x.1≤L.length }) (fun x=>[(1,c),(10,a),(11,.int .i64 L.length),(12,.int .i64 x.1.1)]) (fun x=>H++x.1.2) (fun x=>L.length-x.1.1) ⟨(0,[]),by simp⟩ ?_ ?_
  · exact .inl (by simp)
  · rintro⟨⟨i,G⟩,hi⟩
    dsimp only at hi ⊢
    by_cases hlt:i<L.length
    · have hlt2:(i:Int)<L.length:=by omega
      obtain⟨aid,aoff,aex,rfl,hal,har⟩:=row ha i hlt
      simp only [pv] at har
      have hm0:i * 2+2≤L.length * 2:=by omega
      repeat (first|(with_reducible first|apply X1|apply X2|apply X5|apply X6|apply X8)|((with_reducible apply e_end);(simp;exact Rz))|((first|((with_reducible apply O1);rfl)|((with_reducible apply O2);rfl));(simp (disch:=omega) [hlt,hlt2,rd_old _ hal,har];exact Rz);exact Rz;(focus (first|(simp;done)|omega|(simp;omega))))|((with_reducible apply Z9);(simp (disch:=omega) [hlt,hlt2,rd_old _ hal,har];exact Rz)))
      refine O1 rfl (RAt.len hc _ (by simp)) Rz trivial ?_
      repeat (first|(with_reducible first|apply X6|apply X8)|((with_reducible apply e_end);(simp;exact Rz))|((with_reducible apply O1);rfl;(simp (disch:=omega);exact Rz);exact Rz;(focus (first|(simp;done)|omega|(simp;omega)))))
      refine e_loop (ι:={ z:Nat × Bool × Heap // z.1≤M.length∧(z.2.1=true↔∃ j,j<z.1∧(gP M j).1≤(gP L i).1∧(gP L i).2≤(gP M j).2) })
        (fun z=>[(1,c),(6,.ptr (H.length+G.length) 0),(7,.bool z.1.2.1),(10,.slice aid aoff L.length 2 aex),(11,.int .i64 L.length),(12,.int .i64 i),(16,c),(17,.int .i64 M.length),(18,.int .i64 z.1.1)])
        (fun z=>H++(G++.cells [.int .i64 (gP L i).1,.int .i64 (gP L i).2] true :: z.1.2.2)) (fun z=>M.length-z.1.1) ⟨(0,false,[]),by simp⟩ ?_ ?_
      · exact .inl (by simp)
      · rintro⟨⟨k,is,G2⟩,hk,his⟩
        dsimp only at hk his ⊢
        by_cases hkl:k<M.length
        · have hkl2:(k:Int)<M.length:=by omega
          obtain⟨cid,coff,cex,rfl,hcl,hcr⟩:=row hc k hkl
          simp only [pv] at hcr
          have hm1:k * 2+2≤M.length * 2:=by omega
          have step:∀ b:Bool,(b=true↔is=true∨((gP M k).1≤(gP L i).1∧(gP L i).2≤(gP M k).2))→(b=true↔∃ j,j<k+1∧(gP M j).1≤(gP L i).1∧(gP L i).2≤(gP M j).2):=fun b hb=>by
            rw [hb,his]
            constructor
            · rintro (⟨j,h1,h2⟩|h)
              · exact⟨j,by omega,h2⟩
              · exact⟨k,by omega,h⟩
            · rintro⟨j,h1,h2⟩
              rcases Nat.lt_or_ge j k with h3|h3
              · exact .inl ⟨j,h3,h2⟩
              · have:j=k:=by omega
                subst this;exact .inr h2
          cases is with
          | true =>
            repeat (first|(with_reducible first|apply X1|apply X2|apply X5|apply X6|apply X8|apply Y2)|((with_reducible apply e_end);(simp;exact Rz))|((first|((with_reducible apply O1);rfl)|((with_reducible apply O2);rfl));(simp (disch:=omega) [hkl,hkl2,rd_old _ hcl,hcr];exact Rz);exact Rz;(focus (first|(simp;done)|omega|(simp;omega))))|((with_reducible apply Z9);(simp (disch:=omega) [hkl,hkl2,rd_old _ hcl,hcr];exact Rz))|((with_reducible apply Z2);(simp (disch:=omega) [hkl,hkl2,rd_old _ hcl,hcr];exact Rz))|((with_reducible apply W1);(simp (disch:=omega) [hkl,hkl2,rd_old _ hcl,hcr];exact Rz)))
            exact q_again ⟨(k+1,true,_),hkl,step true (by simp)⟩ (by dsimp only;omega) (.inl (by simp;rfl))
          | false =>
            by_cases c1:(gP M k).1≤(gP L i).1
            · by_cases c2:(gP L i).2≤(gP M k).2
              · repeat (first|(with_reducible first|apply X1|apply X2|apply X5|apply X6|apply X8|apply Y2)|((with_reducible apply e_end);(simp;exact Rz))|((first|((with_reducible apply O1);rfl)|((with_reducible apply O2);rfl));(simp (disch:=omega) [hkl,hkl2,rd_old _ hcl,hcr,c1,c2];exact Rz);exact Rz;(focus (first|(simp;done)|omega|(simp;omega))))|((with_reducible first|apply Z7|apply Z9);(simp (disch:=omega) [hkl,hkl2,rd_old _ hcl,hcr,c1,c2];exact Rz)))
                exact q_again ⟨(k+1,true,_),hkl,step true (by simp [c1,c2])⟩ (by dsimp only;omega) (.inl (by simp;rfl))
              · repeat (first|(with_reducible first|apply X1|apply X2|apply X5|apply X6|apply X8|apply Y2)|((with_reducible apply e_end);(simp;exact Rz))|((first|((with_reducible apply O1);rfl)|((with_reducible apply O2);rfl));(simp (disch:=omega) [hkl,hkl2,rd_old _ hcl,hcr,c1,c2];exact Rz);exact Rz;(focus (first|(simp;done)|omega|(simp;omega))))|((with_reducible first|apply Z7|apply Z9);(simp (disch:=omega) [hkl,hkl2,rd_old _ hcl,hcr,c1,c2];exact Rz)))
                exact q_again ⟨(k+1,false,_),hkl,step false (by simp [c2])⟩ (by dsimp only;omega) (.inl (by simp;rfl))
            · repeat (first|(with_reducible first|apply X1|apply X2|apply X5|apply X6|apply X8|apply Y2)|((with_reducible apply e_end);(simp;exact Rz))|((first|((with_reducible apply O1);rfl)|((with_reducible apply O2);rfl));(simp (disch:=omega) [hkl,hkl2,rd_old _ hcl,hcr,c1];exact Rz);exact Rz;(focus (first|(simp;done)|omega|(simp;omega))))|((with_reducible first|apply Z7|apply Z9);(simp (disch:=omega) [hkl,hkl2,rd_old _ hcl,hcr,c1];exact Rz))|((with_reducible apply Z1);(simp (disch:=omega) [hkl,hkl2,rd_old _ hcl,hcr,c1];exact Rz)))
              exact q_again ⟨(k+1,false,_),hkl,step false (by simp [c1])⟩ (by dsimp only;omega) (.inl (by simp;rfl))
        · have hkl2:¬ (k:Int)<M.length:=by omega
          obtain rfl:k=M.length:=by omega
          have hyes:is=true:=his.2 (by
            obtain⟨y,hy,h1,h2⟩:=hall (gP L i) (gP_mem hlt)
            obtain⟨j,hj,rfl⟩:=mem_gP hy
            exact⟨j,hj,h1,h2⟩)
          subst hyes
          repeat (first|(with_reducible first|apply X1|apply X2|apply X4|apply X5|apply X8|apply Y1|apply Y2|apply Y4|apply Y6)|((with_reducible apply e_end);(simp;exact Rz))|((with_reducible apply O1);rfl;(simp (disch:=omega) [hkl,hkl2];exact Rz);exact Rz;(focus (first|(simp;done)|omega|(simp;omega))))|((with_reducible apply W3);(simp (disch:=omega) [hkl,hkl2];exact Rz)))
          exact q_again ⟨(i+1,_),hlt⟩ (by dsimp only;omega) (.inl (by simp;rfl))
    · have hlt2:¬ (i:Int)<L.length:=by omega
      obtain rfl:i=L.length:=by omega
      repeat (first|(with_reducible first|apply X1|apply X2|apply X3|apply X4|apply X8|apply Y1|apply Y4|apply Y6)|((with_reducible apply e_end);(simp;exact Rz))|((with_reducible apply O1);rfl;(simp (disch:=omega) [hlt,hlt2];exact Rz);exact Rz;(focus (first|(simp;done)|omega|(simp;omega))))|((with_reducible apply W3);(simp (disch:=omega) [hlt,hlt2];exact Rz)))
      refine q_drop (.inr rfl) (by simp;exact Rz) (by simp) ⟨rfl,rfl⟩
theorem ld_plain:∀ l:List Ld,Plain (l.flatMap Ld.av)
  | []=>Plain.nil
  | x :: l=>Plain.app (xs:=x.av) ⟨rfl,fun _=>rfl,fun _=>rfl⟩ (ld_plain l)
theorem c_TwinGearN (H:Heap) (g:Gr) (hrs:g.rs=[]) (hks:g.ks=[]) (lid loff:Nat) (lex:Bool) (hl:rd H lid loff (g.ls.length * 2)=some (g.ls.flatMap Ld.av)) (h1:g.ls.length≤1000) :
    ACalls Try.prog F.ref04_TwinGear [.agg (g.av (.slice lid loff g.ls.length 2 lex) .nilslice .nilslice)] H (fun v h'=>v=.agg (g.av (.slice H.length 0 g.ls.length 2 false) (.slice (H.length+1) 0 0 1 false) (.slice (H.length+2) 0 0 1 false))∧h'=H++[.cells (g.ls.flatMap Ld.av) true,.cells [] true,.cells [] true]):=by
  have ll:=rd_lt hl
  have pl:=ld_plain g.ls
  simp only [Gr.av]
  refine acalls_of ok_ref04_TwinGear rfl fun hcl=>?_
  unfold ac_ref04_TwinGear zo
  simp only [argsT,Nat.zero_add,Nat.reduceAdd]
  repeat (first|(with_reducible first|apply X1|apply X2|apply X3|apply X8)|((with_reducible apply e_end);(simp;exact Rz))|((first|((with_reducible apply O1);rfl)|((with_reducible apply O2);rfl));(simp (disch:=omega) [rd_old _ ll,hl,pl.scal];exact Rz);exact Rz;(focus (first|(simp;done)|omega|(simp;omega)))))
  exact q_post (v':=.agg [.slice H.length 0 g.ls.length 2 false,.int .i64 g.added,.int .i64 g.base,.int .i64 g.jit,.slice (H.length+1) 0 0 1 false,.slice (H.length+2) 0 0 1 false,.int .i64 g.spread,.bool g.stamp]) (.inr rfl) (by simp;exact Rz) (le_plain [3,5,7] _ (by simp) rfl (by simp;exact⟨pl.o _,Plain.nil.o _⟩) (by simp [sh,AV.ren,renL])) ⟨rfl,rfl⟩
theorem inL_one {a n:Int}:inL [(a,a)] n↔n=a:=by
  constructor
  · rintro⟨x,hx,h1,h2⟩
    rw [List.mem_singleton] at hx;subst hx
    dsimp only at h1 h2;omega
  · rintro rfl;exact⟨(n,n),by simp,Int.le_refl _,Int.le_refl _⟩
theorem tog_sum {A B:List (Int × Int)} (hA:∀ a∈A,a.1≤a.2) (hB:Cano B) (n:Int):inL (togL A B) n↔∃ x y,inL A x∧inL B y∧n=x+y:=by
  rw [tog_in hA hB]
  constructor
  · rintro⟨a,ha,b,hb,h1,h2⟩
    have q1:=hA a ha
    have q2:=hB.le b hb
    exact⟨max a.1 (n-b.2),n-max a.1 (n-b.2),⟨a,ha,by omega,by omega⟩,⟨b,hb,by omega,by omega⟩,by omega⟩
  · rintro⟨x,y,⟨a,ha,h1,h2⟩,⟨b,hb,h3,h4⟩,rfl⟩
    exact⟨a,ha,b,hb,by omega,by omega⟩
theorem alT_in {s:Sc} (hs:s.ok) {ns:List Int} (hn:∀ n∈ns,-2000000≤n∧n≤2000000) (n:Int):inL (alT s ns) n↔∃ g o,s.tru g o∧okW s ns g o=true∧smLo g o ns ns.length≤n∧n≤smHi s g o ns ns.length:=by
  have hA:∀ a∈smS s ns,a.1≤a.2:=fun a ha=>by
    obtain⟨y,hy,rfl⟩:=List.mem_map.1 ha
    exact (smS_bd hs hn y hy).2.1
  simp only [alT]
  rw [tog_sum hA cano00]
  constructor
  · rintro⟨x,y,⟨a,ha,h1,h2⟩,hy,rfl⟩
    rw [inL_one] at hy;subst hy
    obtain⟨t,ht,rfl⟩:=List.mem_map.1 ha
    have h3:=(mem_trs hs).1 ht
    simp only [smP] at h1 h2
    exact⟨t.1,t.2,h3.1,h3.2,by omega,by omega⟩
  · rintro⟨g,o,h1,h2,h3,h4⟩
    exact⟨n,0,⟨smP s ns (g,o),List.mem_map.2 ⟨(g,o),(mem_trs hs).2 ⟨h1,h2⟩,rfl⟩,h3,h4⟩,inL_one.2 rfl,by omega⟩
theorem totF_in {ls:List Ld} {a:Int} {p:SP} {U:List SP} (n:Int):inL (totF ls a (p :: U)) n↔∃ x y,inL (alT p.s (shI ls p.s.id)) x∧inL (totF ls a U) y∧n=x+y :=
  tog_sum (fun a ha=>(tog_cano _ _).le a ha) (totF_cano ls a U) n
def Sc.twin (s:Sc):Sc:={ s with id:=s.id+1 }
theorem twin_ok {s:Sc} (hs:s.ok) (h9:s.id≠9999):s.twin.ok:=by
  obtain⟨hb,hl,ht⟩:=hs
  refine⟨?_,hl,ht⟩
  simp only [Sc.built,Sc.twin] at hb ⊢
  omega
def apB (s:Sc) (tid toff:Nat) (ex:Bool) (own:Nat):List SP:=[⟨s,tid,toff,ex⟩,⟨s.twin,own,0,false⟩]
def apG (s:Sc) (one two a:Int):Gr:=⟨[⟨s.id,one⟩,⟨s.id,two⟩],a,0,0,[],[],0,false⟩
def apH (s:Sc) (one two a:Int):Gr:=⟨[⟨s.id,one⟩,⟨s.id+1,two⟩],a,0,0,[],[],0,false⟩
theorem ap_sh (s:Sc) (one two a:Int):shI (apG s one two a).ls s.id=[one,two]∧shI (apG s one two a).ls s.twin.id=[]∧shI (apH s one two a).ls s.id=[one]∧shI (apH s one two a).ls s.twin.id=[two]:=by
  have h1:¬ s.id=s.id+1:=by omega
  have h2:¬ s.id+1=s.id:=by omega
  simp [shI,shN,apG,apH,Sc.twin,h1,h2]
theorem ap_chG {s:Sc} {tid toff own:Nat} {ex:Bool} {one two a:Int} (h:chE (apB s tid toff ex own) (apG s one two a)=0):s.can one∧s.can two∧okB (apB s tid toff ex own)∧(apG s one two a).bare:=by
  obtain⟨⟨hok,_⟩,hG⟩:=chE_zero.1 h
  have can:∀ i,i<2→s.can (lAt (apG s one two a).ls i).n:=fun i hi=>by
    obtain⟨j,hj,he,hc⟩:=hG.ld i hi
    have hid:(lAt (apG s one two a).ls i).id=s.id:=by
      match i,hi with
      | 0,_=>rfl
      | 1,_=>rfl
    match j,hj with
    | 0,_=>exact hc
    | 1,_ =>
      have:s.id+1=(lAt (apG s one two a).ls i).id:=he
      omega
  exact⟨can 0 (by omega),can 1 (by omega),hok,hG.ba⟩
theorem ap_chH {s:Sc} {tid toff own:Nat} {ex:Bool} {one two a:Int} (h:chE (apB s tid toff ex own) (apG s one two a)=0):chE (apB s tid toff ex own) (apH s one two a)=0:=by
  obtain⟨c1,c2,hok,hb⟩:=ap_chG h
  refine chE_zero.2 ⟨⟨hok,by simp [apB]⟩,⟨by simp [apH],fun i hi=>?_,⟨hb.rl,hb.kl,hb.ad,hb.ba,hb.ru,hb.ji,hb.sp,hb.st⟩⟩⟩
  match i,hi with
  | 0,_=>exact⟨0,by simp [apB],rfl,c1⟩
  | 1,_=>exact⟨1,by simp [apB],rfl,c2⟩
theorem ap_us (s:Sc) (tid toff own:Nat) (ex:Bool) (one two a:Int):usN (apB s tid toff ex own) (apG s one two a).ls (apB s tid toff ex own).length=[⟨s,tid,toff,ex⟩]∧usN (apB s tid toff ex own) (apH s one two a).ls (apB s tid toff ex own).length=apB s tid toff ex own:=by
  obtain⟨h1,h2,h3,h4⟩:=ap_sh s one two a
  constructor
  · simp [usN,apB,h1,h2]
  · simp [usN,apB,h3,h4]
theorem ap_in {s:Sc} {tid toff own:Nat} {ex:Bool} {one two a:Int} (hs:s.ok) (h9:s.id≠9999) (h:chE (apB s tid toff ex own) (apG s one two a)=0) (n:Int) (hn:inL (toL (apB s tid toff ex own) (apG s one two a)) n):inL (toL (apB s tid toff ex own) (apH s one two a)) n:=by
  obtain⟨c1,c2,hok,hb⟩:=ap_chG h
  have hH:=ap_chH h
  obtain⟨u1,u2⟩:=ap_us s tid toff own ex one two a
  obtain⟨h1,h2,h3,h4⟩:=ap_sh s one two a
  have hs2:=twin_ok hs h9
  simp only [toL,if_pos h,if_pos hH,u1,u2] at hn ⊢
  simp only [Sc.can] at c1 c2
  have e1:(apG s one two a).added=a:=rfl
  have e2:(apH s one two a).added=a:=rfl
  rw [e1,totF_in] at hn
  obtain⟨x,y,hx,hy,rfl⟩:=hn
  simp only [totF] at hy
  rw [inL_one] at hy
  subst hy
  simp only at hx
  rw [h1,alT_in hs (by intro n hn;simp at hn;omega)] at hx
  obtain⟨g,o,t1,t2,t3,t4⟩:=hx
  have w0:=okW_iff.1 t2 0 (by simp)
  have w1:=okW_iff.1 t2 1 (by simp)
  simp only [List.length_cons,List.length_nil,smLo,smHi] at t3 t4
  simp only [gI,List.getD_cons_zero,List.getD_cons_succ] at w0 w1 t3 t4
  rw [e2]
  simp only [apB]
  rw [totF_in]
  refine⟨max (wtLo g o one) (x-wtHi s g o two),(x-max (wtLo g o one) (x-wtHi s g o two))+y,?_,?_,by omega⟩
  · rw [h3,alT_in hs (by intro n hn;simp at hn;omega)]
    refine⟨g,o,t1,okW_iff.2 fun i hi=>?_,?_,?_⟩
    · have:i=0:=by simpa using hi
      subst this;exact w0
    · simp only [List.length_cons,List.length_nil,smLo,gI,List.getD_cons_zero];omega
    · simp only [List.length_cons,List.length_nil,smHi,gI,List.getD_cons_zero];omega
  · rw [totF_in]
    refine⟨x-max (wtLo g o one) (x-wtHi s g o two),y,?_,inL_one.2 rfl,rfl⟩
    rw [h4,alT_in hs2 (by intro n hn;simp at hn;omega)]
    refine⟨g,o,t1,okW_iff.2 fun i hi=>?_,?_,?_⟩
    · have:i=0:=by simpa using hi
      subst this;exact w1
    · simp only [List.length_cons,List.length_nil,smLo,gI,List.getD_cons_zero];omega
    · simp only [List.length_cons,List.length_nil,smHi,gI,List.getD_cons_zero]
      have:wtHi s.twin g o two=wtHi s g o two:=rfl
      omega
theorem toL_cano (B:List SP) (g:Gr):Cano (toL B g):=by
  unfold toL
  split
  · exact totF_cano _ _ _
  · exact Cano.nil
theorem toL_len {B:List SP} {g:Gr}:((toL B g).length:Int)<1000000000000:=by
  by_cases h:chE B g=0
  · obtain⟨⟨hok,h4⟩,hG⟩:=chE_zero.1 h
    have e:toL B g=totF g.ls g.added (usN B g.ls B.length):=by simp only [toL,if_pos h]
    have hul:=usN_len B g.ls B.length
    have hb:=totF_bd hG.ba.ad.1 hG.len (U:=usN B g.ls B.length) fun p hp=>by
      obtain⟨h1,h2⟩:=List.mem_filter.1 hp
      obtain⟨i,hi,rfl⟩:=mem_bAt (List.mem_of_mem_take h1)
      exact⟨(hok i hi).2,hG.ns _⟩
    have had:=hG.ba.ad
    have:=Cano.len_le (lo:=0) (hi:=25000000) (totF_cano g.ls g.added (usN B g.ls B.length)) fun b hb2=>by have:=hb b hb2;omega
    rw [e];omega
  · have e:toL B g=[]:=by simp only [toL,if_neg h]
    rw [e];simp
set_option maxHeartbeats 8000000 in
theorem c_lawSA (hal:∀ X,ACalls Try.prog F.law04_alive [] X (fun v h=>v=.bool true∧h=X)) (H:Heap) (s:Sc) (one two added:Int) (tid:Nat) (tex:Bool) (ht:rd H tid 0 (s.ts.length * 2)=some (s.ts.flatMap Ti.av)) (ha:0≤added∧added≤65535) :
    ACalls Try.prog F.law04_ScaleApart [.agg (s.av tid 0 tex),.int .i64 one,.int .i64 two,.int .u16 added] H (fun v _=>v=.bool true):=by
  have htl:=rd_lt ht
  simp only [Sc.av]
  refine acalls_of ok_law04_ScaleApart rfl fun hcl=>?_
  unfold ac_law04_ScaleApart zo
  simp only [argsT,Nat.zero_add,Nat.reduceAdd]
  repeat (first|(with_reducible first|apply X1|apply X2|apply X8)|((with_reducible apply e_end);(simp;exact Rz))|((with_reducible apply O1);rfl;(simp (disch:=omega);exact Rz);exact Rz;(focus (first|(simp;done)|omega|(simp;omega)))))
  (with_reducible apply e_call);(simp;exact Rz);exact hal _
  rintro _ _ ⟨rfl,rfl⟩
  repeat (first|(with_reducible first|apply X1|apply X2|apply X5|apply X8)|((with_reducible apply e_end);(simp;exact Rz))|((with_reducible apply O1);rfl;(simp (disch:=omega);exact Rz);exact Rz;(focus (first|(simp;done)|omega|(simp;omega))))|((with_reducible apply W3);(simp (disch:=omega);exact Rz)))
  by_cases h10:10<s.ts.length
  · have h10':(10:Int)<s.ts.length:=by omega
    repeat (first|(with_reducible first|apply X1|apply X2|apply X3|apply X8|apply X9)|((with_reducible apply e_end);(simp;exact Rz))|((with_reducible apply O1);rfl;(simp (disch:=omega) [h10,h10'];exact Rz);exact Rz;(focus (first|(simp;done)|omega|(simp;omega))))|((with_reducible apply Z9);(simp (disch:=omega) [h10,h10'];exact Rz))|((with_reducible apply Z2);(simp (disch:=omega) [h10,h10'];exact Rz)))
    exact q_stay (.inr rfl) (by simp;exact Rz) rfl
  have h10':¬ (10:Int)<s.ts.length:=by omega
  have hts:(s.ts.length:Int)<1000000:=by omega
  obtain⟨b1,h1⟩:=bof s.ok
  have kS:=fun X=>c_r4Scale (H++X) s tid 0 tex (by rw [rd_old _ htl];exact ht) hts h1
  have kT:=fun X=>c_TwinScale (H++X) s tid 0 tex (by rw [rd_old _ htl];exact ht) (by omega)
  simp only [Sc.av] at kS kT
  repeat (first|((with_reducible apply O1);rfl;(simp (disch:=omega) [h10,h10'];exact Rz);exact Rz;(focus (first|(simp;done)|omega|(simp;omega))))|((with_reducible apply Z7);(simp (disch:=omega) [h10,h10'];exact Rz)))
  (with_reducible apply e_call);(simp;exact Rz);exact kS _
  rintro _ _ ⟨rfl,rfl⟩
  cases b1 with
  | false =>
    repeat (first|(with_reducible first|apply X1|apply X2|apply X3|apply X8|apply X9)|((with_reducible apply e_end);(simp;exact Rz))|((with_reducible apply O1);rfl;(simp (disch:=omega) [h10,h10'];exact Rz);exact Rz;(focus (first|(simp;done)|omega|(simp;omega))))|((with_reducible first|apply Z7|apply Z9);(simp (disch:=omega) [h10,h10'];exact Rz))|((with_reducible apply Z2);(simp (disch:=omega) [h10,h10'];exact Rz)))
    exact q_stay (.inr rfl) (by simp;exact Rz) rfl
  | true =>
  have hs:=h1.1 rfl
  have hb:=hs.b
  simp only [Sc.built] at hb
  by_cases h9:s.id=9999
  · repeat (first|(with_reducible first|apply X1|apply X2|apply X3|apply X8|apply X9)|((with_reducible apply e_end);(simp;exact Rz))|((with_reducible apply O1);rfl;(simp (disch:=omega) [h10,h10',h9];exact Rz);exact Rz;(focus (first|(simp;done)|omega|(simp;omega))))|((with_reducible first|apply Z7|apply Z9);(simp (disch:=omega) [h10,h10',h9];exact Rz)))
    exact q_stay (.inr rfl) (by simp;exact Rz) rfl
  repeat (first|(with_reducible first|apply X1|apply X2|apply X5|apply X8)|((with_reducible apply e_end);(simp;exact Rz))|((with_reducible apply O1);rfl;(simp (disch:=omega) [h10,h10',h9];exact Rz);exact Rz;(focus (first|(simp;done)|omega|(simp;omega))))|((with_reducible apply Z7);(simp (disch:=omega) [h10,h10',h9];exact Rz))|((with_reducible apply W3);(simp (disch:=omega) [h10,h10',h9];exact Rz)))
  (with_reducible apply e_call);(simp;exact Rz);exact kT _
  rintro _ _ ⟨rfl,rfl⟩
  repeat (first|(with_reducible first|apply X1|apply X2|apply X8)|((with_reducible apply e_end);(simp;exact Rz))|((first|((with_reducible apply O1);rfl)|((with_reducible apply O2);rfl));(simp (disch:=omega);exact Rz);exact Rz;(focus (first|(simp;done)|omega|(simp;omega)))))
  have kG:=fun X (lid:Nat) (hr:rd (H++X) lid 0 4=some [.int .i64 s.id,.int .i64 one,.int .i64 s.id,.int .i64 two])=>c_TwinGearN (H++X) (apG s one two added) rfl rfl lid 0 true (by simpa [apG,Ld.av] using hr) (by simp [apG])
  simp only [Gr.av,apG,List.length_cons,List.length_nil,Nat.zero_add,Nat.reduceAdd,List.flatMap_cons,List.flatMap_nil,Ld.av,List.cons_append,List.nil_append] at kG
  (with_reducible apply e_call);(simp;exact Rz);exact kG _ _ (by simp)
  rintro _ _ ⟨rfl,rfl⟩
  repeat (first|(with_reducible first|apply X1|apply X2|apply X8)|((with_reducible apply e_end);(simp;exact Rz))|((first|((with_reducible apply O1);rfl)|((with_reducible apply O2);rfl));(simp (disch:=omega);exact Rz);exact Rz;(focus (first|(simp;done)|omega|(simp;omega)))))
  have q11:rd (H++[AObj.cells [.int .i64 s.id,.int .i64 s.step,.int .i64 s.gLo,.int .i64 s.gHi,.int .i64 s.oLo,.int .i64 s.oHi,.slice tid 0 s.ts.length 2 tex] true,.cells (s.ts.flatMap Ti.av) true,.cells [.int .i64 (s.id+1),.int .i64 s.step,.int .i64 s.gLo,.int .i64 s.gHi,.int .i64 s.oLo,.int .i64 s.oHi,.slice (H.length+1) 0 s.ts.length 2 false] true,.cells [.int .i64 s.id,.int .i64 s.step,.int .i64 s.gLo,.int .i64 s.gHi,.int .i64 s.oLo,.int .i64 s.oHi,.slice tid 0 s.ts.length 2 tex,.int .i64 (s.id+1),.int .i64 s.step,.int .i64 s.gLo,.int .i64 s.gHi,.int .i64 s.oLo,.int .i64 s.oHi,.slice (H.length+1) 0 s.ts.length 2 false] true,.cells [.slice (H.length+3) 0 2 7 true] true,.cells [.int .i64 s.id,.int .i64 one,.int .i64 s.id,.int .i64 two] true,.cells [.slice (H.length+5) 0 2 2 true,.int .i64 added,.int .i64 0,.int .i64 0,.nilslice,.nilslice,.int .i64 0,.bool false] true,.cells [.int .i64 s.id,.int .i64 one,.int .i64 (s.id+1),.int .i64 two] true,.cells [] true,.cells [] true,.cells [.slice (H.length+7) 0 2 2 false,.int .i64 added,.int .i64 0,.int .i64 0,.slice (H.length+7+1) 0 0 1 false,.slice (H.length+7+2) 0 0 1 false,.int .i64 0,.bool false] true]) (H.length+4) 0 1=some [.slice (H.length+3) 0 2 7 true]:=by simp
  have q12:rd (H++[AObj.cells [.int .i64 s.id,.int .i64 s.step,.int .i64 s.gLo,.int .i64 s.gHi,.int .i64 s.oLo,.int .i64 s.oHi,.slice tid 0 s.ts.length 2 tex] true,.cells (s.ts.flatMap Ti.av) true,.cells [.int .i64 (s.id+1),.int .i64 s.step,.int .i64 s.gLo,.int .i64 s.gHi,.int .i64 s.oLo,.int .i64 s.oHi,.slice (H.length+1) 0 s.ts.length 2 false] true,.cells [.int .i64 s.id,.int .i64 s.step,.int .i64 s.gLo,.int .i64 s.gHi,.int .i64 s.oLo,.int .i64 s.oHi,.slice tid 0 s.ts.length 2 tex,.int .i64 (s.id+1),.int .i64 s.step,.int .i64 s.gLo,.int .i64 s.gHi,.int .i64 s.oLo,.int .i64 s.oHi,.slice (H.length+1) 0 s.ts.length 2 false] true,.cells [.slice (H.length+3) 0 2 7 true] true,.cells [.int .i64 s.id,.int .i64 one,.int .i64 s.id,.int .i64 two] true,.cells [.slice (H.length+5) 0 2 2 true,.int .i64 added,.int .i64 0,.int .i64 0,.nilslice,.nilslice,.int .i64 0,.bool false] true,.cells [.int .i64 s.id,.int .i64 one,.int .i64 (s.id+1),.int .i64 two] true,.cells [] true,.cells [] true,.cells [.slice (H.length+7) 0 2 2 false,.int .i64 added,.int .i64 0,.int .i64 0,.slice (H.length+7+1) 0 0 1 false,.slice (H.length+7+2) 0 0 1 false,.int .i64 0,.bool false] true]) (H.length+6) 0 8=some [.slice (H.length+5) 0 2 2 true,.int .i64 added,.int .i64 0,.int .i64 0,.nilslice,.nilslice,.int .i64 0,.bool false]:=by simp
  have q13:rd (H++[AObj.cells [.int .i64 s.id,.int .i64 s.step,.int .i64 s.gLo,.int .i64 s.gHi,.int .i64 s.oLo,.int .i64 s.oHi,.slice tid 0 s.ts.length 2 tex] true,.cells (s.ts.flatMap Ti.av) true,.cells [.int .i64 (s.id+1),.int .i64 s.step,.int .i64 s.gLo,.int .i64 s.gHi,.int .i64 s.oLo,.int .i64 s.oHi,.slice (H.length+1) 0 s.ts.length 2 false] true,.cells [.int .i64 s.id,.int .i64 s.step,.int .i64 s.gLo,.int .i64 s.gHi,.int .i64 s.oLo,.int .i64 s.oHi,.slice tid 0 s.ts.length 2 tex,.int .i64 (s.id+1),.int .i64 s.step,.int .i64 s.gLo,.int .i64 s.gHi,.int .i64 s.oLo,.int .i64 s.oHi,.slice (H.length+1) 0 s.ts.length 2 false] true,.cells [.slice (H.length+3) 0 2 7 true] true,.cells [.int .i64 s.id,.int .i64 one,.int .i64 s.id,.int .i64 two] true,.cells [.slice (H.length+5) 0 2 2 true,.int .i64 added,.int .i64 0,.int .i64 0,.nilslice,.nilslice,.int .i64 0,.bool false] true,.cells [.int .i64 s.id,.int .i64 one,.int .i64 (s.id+1),.int .i64 two] true,.cells [] true,.cells [] true,.cells [.slice (H.length+7) 0 2 2 false,.int .i64 added,.int .i64 0,.int .i64 0,.slice (H.length+7+1) 0 0 1 false,.slice (H.length+7+2) 0 0 1 false,.int .i64 0,.bool false] true]) (H.length+10) 0 8=some [.slice (H.length+7) 0 2 2 false,.int .i64 added,.int .i64 0,.int .i64 0,.slice (H.length+7+1) 0 0 1 false,.slice (H.length+7+2) 0 0 1 false,.int .i64 0,.bool false]:=by simp
  have qt:(H++[AObj.cells [.int .i64 s.id,.int .i64 s.step,.int .i64 s.gLo,.int .i64 s.gHi,.int .i64 s.oLo,.int .i64 s.oHi,.slice tid 0 s.ts.length 2 tex] true,.cells (s.ts.flatMap Ti.av) true,.cells [.int .i64 (s.id+1),.int .i64 s.step,.int .i64 s.gLo,.int .i64 s.gHi,.int .i64 s.oLo,.int .i64 s.oHi,.slice (H.length+1) 0 s.ts.length 2 false] true,.cells [.int .i64 s.id,.int .i64 s.step,.int .i64 s.gLo,.int .i64 s.gHi,.int .i64 s.oLo,.int .i64 s.oHi,.slice tid 0 s.ts.length 2 tex,.int .i64 (s.id+1),.int .i64 s.step,.int .i64 s.gLo,.int .i64 s.gHi,.int .i64 s.oLo,.int .i64 s.oHi,.slice (H.length+1) 0 s.ts.length 2 false] true,.cells [.slice (H.length+3) 0 2 7 true] true,.cells [.int .i64 s.id,.int .i64 one,.int .i64 s.id,.int .i64 two] true,.cells [.slice (H.length+5) 0 2 2 true,.int .i64 added,.int .i64 0,.int .i64 0,.nilslice,.nilslice,.int .i64 0,.bool false] true,.cells [.int .i64 s.id,.int .i64 one,.int .i64 (s.id+1),.int .i64 two] true,.cells [] true,.cells [] true,.cells [.slice (H.length+7) 0 2 2 false,.int .i64 added,.int .i64 0,.int .i64 0,.slice (H.length+7+1) 0 0 1 false,.slice (H.length+7+2) 0 0 1 false,.int .i64 0,.bool false] true])[H.length+1]?=some (.cells (s.ts.flatMap Ti.av) true):=by simp
  have htl2:(s.ts.flatMap Ti.av).length=s.ts.length * 2:=by
    have:∀ l:List Ti,(l.flatMap Ti.av).length=l.length * 2:=fun l=>by
      induction l with
      | nil=>rfl
      | cons x l ih=>simp only [List.flatMap_cons,List.length_append,List.length_cons,Ti.av_length,ih];omega
    exact this _
  have mB:BayAt (H++[AObj.cells [.int .i64 s.id,.int .i64 s.step,.int .i64 s.gLo,.int .i64 s.gHi,.int .i64 s.oLo,.int .i64 s.oHi,.slice tid 0 s.ts.length 2 tex] true,.cells (s.ts.flatMap Ti.av) true,.cells [.int .i64 (s.id+1),.int .i64 s.step,.int .i64 s.gLo,.int .i64 s.gHi,.int .i64 s.oLo,.int .i64 s.oHi,.slice (H.length+1) 0 s.ts.length 2 false] true,.cells [.int .i64 s.id,.int .i64 s.step,.int .i64 s.gLo,.int .i64 s.gHi,.int .i64 s.oLo,.int .i64 s.oHi,.slice tid 0 s.ts.length 2 tex,.int .i64 (s.id+1),.int .i64 s.step,.int .i64 s.gLo,.int .i64 s.gHi,.int .i64 s.oLo,.int .i64 s.oHi,.slice (H.length+1) 0 s.ts.length 2 false] true,.cells [.slice (H.length+3) 0 2 7 true] true,.cells [.int .i64 s.id,.int .i64 one,.int .i64 s.id,.int .i64 two] true,.cells [.slice (H.length+5) 0 2 2 true,.int .i64 added,.int .i64 0,.int .i64 0,.nilslice,.nilslice,.int .i64 0,.bool false] true,.cells [.int .i64 s.id,.int .i64 one,.int .i64 (s.id+1),.int .i64 two] true,.cells [] true,.cells [] true,.cells [.slice (H.length+7) 0 2 2 false,.int .i64 added,.int .i64 0,.int .i64 0,.slice (H.length+7+1) 0 0 1 false,.slice (H.length+7+2) 0 0 1 false,.int .i64 0,.bool false] true]) (H.length+3) 0 (apB s tid 0 tex (H.length+1)):=⟨by simp [apB,SP.av,Sc.av,Sc.twin],fun p hp=>by
    simp only [apB,List.mem_cons,List.not_mem_nil,or_false] at hp
    rcases hp with rfl|rfl
    · exact⟨by rw [rd_old _ htl];exact ht,hts⟩
    · exact⟨rd_full qt htl2,hts⟩⟩
  have mG:GAt (H++[AObj.cells [.int .i64 s.id,.int .i64 s.step,.int .i64 s.gLo,.int .i64 s.gHi,.int .i64 s.oLo,.int .i64 s.oHi,.slice tid 0 s.ts.length 2 tex] true,.cells (s.ts.flatMap Ti.av) true,.cells [.int .i64 (s.id+1),.int .i64 s.step,.int .i64 s.gLo,.int .i64 s.gHi,.int .i64 s.oLo,.int .i64 s.oHi,.slice (H.length+1) 0 s.ts.length 2 false] true,.cells [.int .i64 s.id,.int .i64 s.step,.int .i64 s.gLo,.int .i64 s.gHi,.int .i64 s.oLo,.int .i64 s.oHi,.slice tid 0 s.ts.length 2 tex,.int .i64 (s.id+1),.int .i64 s.step,.int .i64 s.gLo,.int .i64 s.gHi,.int .i64 s.oLo,.int .i64 s.oHi,.slice (H.length+1) 0 s.ts.length 2 false] true,.cells [.slice (H.length+3) 0 2 7 true] true,.cells [.int .i64 s.id,.int .i64 one,.int .i64 s.id,.int .i64 two] true,.cells [.slice (H.length+5) 0 2 2 true,.int .i64 added,.int .i64 0,.int .i64 0,.nilslice,.nilslice,.int .i64 0,.bool false] true,.cells [.int .i64 s.id,.int .i64 one,.int .i64 (s.id+1),.int .i64 two] true,.cells [] true,.cells [] true,.cells [.slice (H.length+7) 0 2 2 false,.int .i64 added,.int .i64 0,.int .i64 0,.slice (H.length+7+1) 0 0 1 false,.slice (H.length+7+2) 0 0 1 false,.int .i64 0,.bool false] true]) (apG s one two added) (.slice (H.length+5) 0 2 2 true) .nilslice .nilslice:=⟨RAt.of_cells (b:=true) (by simp [apG,Ld.av]) (by simp [apG,Ld.av]),⟨rfl,.inl ⟨rfl,rfl⟩⟩,⟨rfl,.inl ⟨rfl,rfl⟩⟩,by simp [apG],by simp [apG],by simp [apG]⟩
  have mH:GAt (H++[AObj.cells [.int .i64 s.id,.int .i64 s.step,.int .i64 s.gLo,.int .i64 s.gHi,.int .i64 s.oLo,.int .i64 s.oHi,.slice tid 0 s.ts.length 2 tex] true,.cells (s.ts.flatMap Ti.av) true,.cells [.int .i64 (s.id+1),.int .i64 s.step,.int .i64 s.gLo,.int .i64 s.gHi,.int .i64 s.oLo,.int .i64 s.oHi,.slice (H.length+1) 0 s.ts.length 2 false] true,.cells [.int .i64 s.id,.int .i64 s.step,.int .i64 s.gLo,.int .i64 s.gHi,.int .i64 s.oLo,.int .i64 s.oHi,.slice tid 0 s.ts.length 2 tex,.int .i64 (s.id+1),.int .i64 s.step,.int .i64 s.gLo,.int .i64 s.gHi,.int .i64 s.oLo,.int .i64 s.oHi,.slice (H.length+1) 0 s.ts.length 2 false] true,.cells [.slice (H.length+3) 0 2 7 true] true,.cells [.int .i64 s.id,.int .i64 one,.int .i64 s.id,.int .i64 two] true,.cells [.slice (H.length+5) 0 2 2 true,.int .i64 added,.int .i64 0,.int .i64 0,.nilslice,.nilslice,.int .i64 0,.bool false] true,.cells [.int .i64 s.id,.int .i64 one,.int .i64 (s.id+1),.int .i64 two] true,.cells [] true,.cells [] true,.cells [.slice (H.length+7) 0 2 2 false,.int .i64 added,.int .i64 0,.int .i64 0,.slice (H.length+7+1) 0 0 1 false,.slice (H.length+7+2) 0 0 1 false,.int .i64 0,.bool false] true]) (apH s one two added) (.slice (H.length+7) 0 2 2 false) (.slice (H.length+7+1) 0 0 1 false) (.slice (H.length+7+2) 0 0 1 false):=⟨RAt.of_cells (b:=true) (by simp [apH,Ld.av]) (by simp [apH,Ld.av]),RAt.of_cells (cs:=iv []) (b:=true) (by rw [show H.length+7+1=H.length+8 from rfl];simp [iv]) rfl,RAt.of_cells (cs:=iv []) (b:=true) (by rw [show H.length+7+2=H.length+9 from rfl];simp [iv]) rfl,by simp [apH],by simp [apH],by simp [apH]⟩
  generalize (H++[AObj.cells [.int .i64 s.id,.int .i64 s.step,.int .i64 s.gLo,.int .i64 s.gHi,.int .i64 s.oLo,.int .i64 s.oHi,.slice tid 0 s.ts.length 2 tex] true,.cells (s.ts.flatMap Ti.av) true,.cells [.int .i64 (s.id+1),.int .i64 s.step,.int .i64 s.gLo,.int .i64 s.gHi,.int .i64 s.oLo,.int .i64 s.oHi,.slice (H.length+1) 0 s.ts.length 2 false] true,.cells [.int .i64 s.id,.int .i64 s.step,.int .i64 s.gLo,.int .i64 s.gHi,.int .i64 s.oLo,.int .i64 s.oHi,.slice tid 0 s.ts.length 2 tex,.int .i64 (s.id+1),.int .i64 s.step,.int .i64 s.gLo,.int .i64 s.gHi,.int .i64 s.oLo,.int .i64 s.oHi,.slice (H.length+1) 0 s.ts.length 2 false] true,.cells [.slice (H.length+3) 0 2 7 true] true,.cells [.int .i64 s.id,.int .i64 one,.int .i64 s.id,.int .i64 two] true,.cells [.slice (H.length+5) 0 2 2 true,.int .i64 added,.int .i64 0,.int .i64 0,.nilslice,.nilslice,.int .i64 0,.bool false] true,.cells [.int .i64 s.id,.int .i64 one,.int .i64 (s.id+1),.int .i64 two] true,.cells [] true,.cells [] true,.cells [.slice (H.length+7) 0 2 2 false,.int .i64 added,.int .i64 0,.int .i64 0,.slice (H.length+7+1) 0 0 1 false,.slice (H.length+7+2) 0 0 1 false,.int .i64 0,.bool false] true])=M at *
  clear kG kT kS
  have hlM:=rd_lt q11
  have l12:=rd_lt q12
  have l13:=rd_lt q13
  have hBl:((apB s tid 0 tex (H.length+1)).length:Int)<1000000:=by simp [apB]
  obtain⟨b2,h2⟩:=bof (¬ grt (apB s tid 0 tex (H.length+1)) (apG s one two added)∧chE (apB s tid 0 tex (H.length+1)) (apG s one two added)=0)
  have kR:=c_ready M (apB s tid 0 tex (H.length+1)) (H.length+3) 0 true mB hBl (apG s one two added) _ _ _ mG h2
  have kT1:=c_Totals M (apB s tid 0 tex (H.length+1)) (H.length+3) 0 true mB hBl (apG s one two added) _ _ _ mG
  have kT2:=fun X=>c_Totals (M++X) (apB s tid 0 tex (H.length+1)) (H.length+3) 0 true (mB.app X) hBl (apH s one two added) _ _ _ (mH.app X)
  have pin:=fun hc n hn=>ap_in (s:=s) (tid:=tid) (toff:=0) (own:=H.length+1) (ex:=tex) (one:=one) (two:=two) (a:=added) hs h9 hc n hn
  have pch:=fun hc=>ap_chH (s:=s) (tid:=tid) (toff:=0) (own:=H.length+1) (ex:=tex) (one:=one) (two:=two) (a:=added) hc
  have eBl:(apB s tid 0 tex (H.length+1)).length=2:=rfl
  have eGv:∀ a b c,(apG s one two added).av a b c=[a,.int .i64 added,.int .i64 0,.int .i64 0,b,c,.int .i64 0,.bool false]:=fun _ _ _=>rfl
  have eHv:∀ a b c,(apH s one two added).av a b c=[a,.int .i64 added,.int .i64 0,.int .i64 0,b,c,.int .i64 0,.bool false]:=fun _ _ _=>rfl
  simp only [eBl,eGv,eHv] at kR kT1 kT2
  generalize apB s tid 0 tex (H.length+1)=B at *
  generalize apG s one two added=g at *
  generalize apH s one two added=h at *
  (with_reducible apply e_call);(simp;exact Rz);exact kR
  rintro _ hqh ⟨rfl,hqe⟩
  rw [hqe];clear hqe hqh
  cases b2 with
  | false =>
    repeat (first|(with_reducible first|apply X1|apply X2|apply X3|apply X8|apply X9)|((with_reducible apply e_end);(simp;exact Rz))|((with_reducible apply O1);rfl;(simp (disch:=omega);exact Rz);exact Rz;(focus (first|(simp;done)|omega|(simp;omega))))|((with_reducible apply Z9);(simp (disch:=omega);exact Rz)))
    exact q_stay (.inr rfl) (by simp;exact Rz) rfl
  | true =>
  have hch:=(h2.1 rfl).2
  have hch2:=pch hch
  repeat (first|(with_reducible first|apply X1|apply X2|apply X5|apply X8)|((with_reducible apply e_end);(simp;exact Rz))|((with_reducible apply O1);rfl;(simp (disch:=omega) [q11,q12];exact Rz);exact Rz;(focus (first|(simp;done)|omega|(simp;omega))))|((with_reducible apply W3);(simp (disch:=omega) [q11,q12];exact Rz)))
  (with_reducible apply e_call);(simp;exact Rz);exact kT1
  rintro _ _ ⟨la,G1,rfl,rfl,hA,_⟩
  have sa:=hA.sc (Nat.le_refl _)
  repeat (first|(with_reducible first|apply X1|apply X2|apply X8)|((with_reducible apply e_end);(simp;exact Rz))|((with_reducible apply O1);rfl;(simp (disch:=omega) [rd_old _ hlM,q11,rd_old _ l13,q13];exact Rz);exact Rz;(focus (first|(simp;done)|omega|(simp;omega)))))
  (with_reducible apply e_call);(simp;exact Rz);exact kT2 _
  rintro _ _ ⟨lc,G2,rfl,rfl,hC,_⟩
  have sc:=hC.sc (Nat.le_refl _)
  simp only [List.append_assoc] at hC sc ⊢
  have hA2:RAt (M++(G1++G2)) 2 la (pvs (toL B g)) (toL B g).length:=by rw [← List.append_assoc];exact RAt.app hA G2
  have eg:toE B g=if toL B g=[] then 6 else 0:=by simp only [toE,if_pos hch]
  have eh:toE B h=if toL B h=[] then 6 else 0:=by simp only [toE,if_pos hch2]
  by_cases h0:toL B g=[]
  · rw [if_pos h0] at eg
    rw [eg]
    by_cases h3:toL B h=[]
    · rw [if_pos h3] at eh
      rw [eh]
      repeat (first|(with_reducible first|apply X1|apply X2|apply X3|apply X8|apply X9)|((with_reducible apply e_end);(simp;exact Rz))|((with_reducible apply O1);rfl;(simp (disch:=omega);exact Rz);exact Rz;(focus (first|(simp;done)|omega|(simp;omega))))|((with_reducible first|apply Z7|apply Z9);(simp (disch:=omega);exact Rz)))
      exact q_stay (.inr rfl) (by simp;exact Rz) rfl
    · rw [if_neg h3] at eh
      rw [eh]
      repeat (first|(with_reducible first|apply X1|apply X2|apply X3|apply X8|apply X9)|((with_reducible apply e_end);(simp;exact Rz))|((with_reducible apply O1);rfl;(simp (disch:=omega);exact Rz);exact Rz;(focus (first|(simp;done)|omega|(simp;omega))))|((with_reducible first|apply Z7|apply Z9);(simp (disch:=omega);exact Rz))|((with_reducible apply Z2);(simp (disch:=omega);exact Rz)))
      exact q_stay (.inr rfl) (by simp;exact Rz) rfl
  · rw [if_neg h0] at eg
    have h3:toL B h≠[]:=fun e=>by
      obtain⟨x,hx⟩:=List.exists_mem_of_ne_nil _ h0
      have:=pin hch x.1 ⟨x,hx,Int.le_refl _,(toL_cano B g).le x hx⟩
      rw [e] at this
      obtain⟨y,hy,_⟩:=this
      cases hy
    rw [if_neg h3] at eh
    rw [eg,eh]
    have kA:=c_among (M++(G1++G2)) la lc (toL B g) (toL B h) hA2 hC toL_len toL_len fun x hx=>(toL_cano B h).within ((toL_cano B g).le x hx) fun n h4 h5=>pin hch n ⟨x,hx,h4,h5⟩
    repeat (first|(with_reducible first|apply X1|apply X2|apply X5|apply X8)|((with_reducible apply e_end);(simp;exact Rz))|((with_reducible apply O1);rfl;(simp (disch:=omega);exact Rz);exact Rz;(focus (first|(simp;done)|omega|(simp;omega))))|((with_reducible apply Z7);(simp (disch:=omega);exact Rz))|((with_reducible apply W3);(simp (disch:=omega);exact Rz)))
    (with_reducible apply e_call);(simp;exact Rz);exact kA
    rintro _ _ ⟨rfl,rfl⟩
    repeat (first|(with_reducible first|apply X3|apply X8)|((with_reducible apply e_end);(simp;exact Rz))|((with_reducible apply O1);rfl;(simp (disch:=omega);exact Rz);exact Rz;(focus (first|(simp;done)|omega|(simp;omega)))))
    exact q_stay (.inr rfl) (by simp;exact Rz) rfl
end Go.Proofs
