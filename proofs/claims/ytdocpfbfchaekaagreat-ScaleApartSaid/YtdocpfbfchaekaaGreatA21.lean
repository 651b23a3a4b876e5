/- Rounds of loops over functions, and functions. -/
import Derived.Test.YtdocpfbfchaekaaGreatA20
namespace Go.Abs
open Go.RowKit
/-! ### Rounds -/
def roundT (ps:List Nat) (args:List AV) (t:List (Nat × AV)):List (Nat × AV):=(ps.zip args).foldl (fun t x=>(x.1,x.2) :: t) t
def RoundEnd (h:Heap) (id:Nat) (R:AV→Heap→Prop) (e:Exit) (s:St):Prop :=
  match s.h[id]? with
  | some (.other (.loop t ps a b .busy))=>match e with
    | .normal=>∃ h',LeE h ⟨[],s.h.set id (.other (.loop t ps a b .ready))⟩ ⟨[],h'⟩∧R (.bool true) h'
    | .ret=>∃ h',LeE h ⟨[],s.h.set id (.other (.loop t ps a b (.done .ret)))⟩ ⟨[],h'⟩∧R (.bool false) h'
    | .exit k=>∃ h',LeE h ⟨[],s.h.set id (.other (.loop t ps a b (.done (.exit k))))⟩ ⟨[],h'⟩∧R (.bool false) h'
    | _=>False
  | _=>False
def RoundBegin (P:Program) (h:Heap) (id:Nat) (b:AC) (R:AV→Heap→Prop) (e:Exit) (s:St):Prop :=
  e=.normal∧match s.h[id]? with
  | some (.other (.loop t ps a' b' .ready))=>b.wp P h (RoundEnd h id R) ⟨s.t,s.h.set id (.other (.loop t ps a' b' .busy))⟩
  | _=>False
theorem tok_round {σ:Sg} {sz:Nat}:∀ (ps:List Nat) (args:List AV) (cargs:List Value) (t:List (Nat × AV)) (tm:Array Value),(ps.all fun p=>decide (p<sz))=true→tm.size=sz→RelL σ args cargs →
    TOK σ t { tmps:=tm,defers:=[] } →
    TOK σ ((ps.zip args).foldl (fun t x=>(x.1,x.2) :: t) t) { tmps:=(ps.zip cargs).foldl (fun tm x=>tm.setIfInBounds x.1 x.2) tm,defers:=[] }∧((ps.zip cargs).foldl (fun tm x=>tm.setIfInBounds x.1 x.2) tm).size=sz
  | [],_,_,t,tm,_,hs,_,ht=>by simpa using ⟨ht,hs⟩
  | p :: ps,[],cargs,t,tm,hp,hs,hr,ht=>by
    simp only [RelL] at hr;subst hr;simpa using ⟨ht,hs⟩
  | p :: ps,v :: args,cargs,t,tm,hp,hs,hr,ht=>by
    simp only [RelL] at hr
    obtain⟨c,cs,rfl,h1,h2⟩:=hr
    simp only [List.all_cons,Bool.and_eq_true,decide_eq_true_eq] at hp
    simp only [List.zip_cons_cons,List.foldl_cons]
    exact tok_round ps args cs _ _ hp.2 (by simpa using hs) h2 (tok_put (a:={ tmps:=tm,defers:=[] }) ht (by simpa [hs] using hp.1) h1)
theorem prefix_of_agree {P:Program} {B:Nat} {σ σ2:Sg} {H h2:Heap} {w w2:World} (k:HeapOK P B σ H w) (k2:HeapOK P B σ2 h2 w2) (hle:H.length≤h2.length) (ag:Agree H.length σ σ2):∃ τ,σ2=σ++τ:=by
  refine⟨σ2.drop σ.length,?_⟩
  have hle2:σ.length≤σ2.length:=by rw [k.len,k2.len];exact hle
  have:σ2.take σ.length=σ:=by
    apply List.ext_getElem?
    intro i
    rw [List.getElem?_take]
    split
    · rename_i hi
      rw [k.len] at hi
      rw [ag i hi]
    · rename_i hi
      rw [List.getElem?_eq_none (by omega)]
  conv=>lhs;rw [← List.take_append_drop σ.length σ2,this]
theorem ayields {P:Program} {id:Nat} {t:List (Nat × AV)} {ps:List Nat} {a b:AC} {h:Heap} {args:List AV} {R:AV→Heap→Prop} (hid:h[id]?=some (.other (.loop t ps a b .ready))) (hl:args.length=ps.length)
    (hw:Closed h→a.wp P h (RoundBegin P h id b R) ⟨roundT ps args t,h⟩):AYields P id args h R:=by
  intro B σ w cargs hk hrel
  obtain⟨l,hsl⟩:=hk.sg hid
  have hob:=hk.obj _ _ _ hid hsl
  cases l with
  | none=>exact hob.elim
  | some l =>
    obtain⟨hlt,hB,hb0,r,hblk,htok,hps,hpb,hca,hcb,hph,htsc⟩:=hob
    have hsz:cargs.size=r.params.size:=by
      have h1:args.length=cargs.toList.length:=hrel.length
      have h2:r.params.toList.length=ps.length:=by rw [hps]
      simp at h1 h2;omega
    refine⟨l,r.fn,_,r.assign,r.body,hsl,run_yield hblk hsz,roundIn_of_wpIn trivial ?_⟩
    have htm:(r.params.zip cargs).foldl (fun tmps (x:Tmp × Value)=>tmps.setIfInBounds x.1 x.2) r.tmps=(ps.zip cargs.toList).foldl (fun tm x=>tm.setIfInBounds x.1 x.2) r.tmps:=by
      rw [← Array.foldl_toList,Array.toList_zip,hps]
    obtain⟨t1,t2⟩:=tok_round ps args cargs.toList t r.tmps hpb rfl hrel htok
    have hsim:Sim P ⟨some l.blk,0⟩ B h.length r.tmps.size σ ⟨roundT ps args t,h⟩ w { tmps:=(ps.zip cargs.toList).foldl (fun tm x=>tm.setIfInBounds x.1 x.2) r.tmps,defers:=[] } :=
      ⟨hk,t1,⟨Nat.zero_le _,⟨[],rfl,by simp,by simp⟩,fun l' e=>by simp only [Option.some.injEq] at e;subst e;exact⟨r,hblk⟩⟩,t2,Nat.le_refl _⟩
    have hrun:=AC.sound (rnd:=⟨some l.blk,0⟩) hk.closed r.assign a hca _ _ σ w _ hsim (hw hk.closed)
    show r.assign.wpIn (RF ⟨some l.blk,0⟩) 0 P _ _ w
    have hat:(fun (tmps:Array Value) (x:Tmp × Value)=>match x with|(t,a)=>tmps.setIfInBounds t a)=fun tmps x=>tmps.setIfInBounds x.1 x.2:=rfl
    rw [hat,htm]
    refine wpIn_mono hrun ?_
    rintro e a1 w1 ⟨σ1,s1,g1,g2,g3,he,g4⟩
    subst he
    split at g4
    · rename_i t0 ps0 a0 b0 hid1
      have hidlt:id<h.length:=get_some_lt hid
      have hsl1:σ1[id]?=some (some l):=by rw [g1 id hidlt];exact hsl
      obtain⟨hlt1,_,_,r1,hblk1,m1,m2,m3,m4,m5,m6,m7⟩:=g2.hk.obj _ _ _ hid1 hsl1
      refine⟨_,run_beginRound hblk1 m6.1,?_⟩
      have hct1:Ctl w1 (w1.putObj l.blk (.loop { r1 with state:=.busy })):=Ctl.putObj w1 _ hblk1 (fun r' e=>by cases e;exact⟨_,rfl,rfl⟩) (by intro d e;cases e)
      have hk2:=g2.hk.put (x':=.loop t0 ps0 a0 b0 .busy) hid1 hsl1 (.loop { r1 with state:=.busy }) ⟨_,rfl,m1,m2,m3,m4,m5,rfl,m7⟩
      have hsim2:Sim P ⟨some l.blk,0⟩ B h.length r.tmps.size σ1 ⟨s1.t,s1.h.set id (.other (.loop t0 ps0 a0 b0 .busy))⟩ (w1.putObj l.blk (.loop { r1 with state:=.busy })) a1 :=
        ⟨hk2,g2.ht,g2.hd.mono hct1 rfl,g2.hsz,by simpa using g2.hn⟩
      have hrun2:=AC.sound (rnd:=⟨some l.blk,0⟩) hk.closed r.body b hcb _ _ σ1 _ a1 hsim2 g4
      refine wpIn_mono hrun2 ?_
      rintro e2 a2 w2 ⟨σ2,s2,q1,q2,q3,q4⟩
      have hg12:=(g3.trans (Grow.put (ob':=.other (.loop t0 ps0 a0 b0 .busy)) hid1 rfl hsl1 _ hct1)).trans q3
      unfold RoundEnd at q4
      split at q4
      · rename_i t3 ps3 a3 b3 hid2
        have hsl2:σ2[id]?=some (some l):=by rw [q1 id hidlt];exact hsl1
        obtain⟨hlt2,_,_,r2,hblk2,n1,n2,n3,n4,n5,n6,n7⟩:=q2.hk.obj _ _ _ hid2 hsl2
        have fin:∀ (jump:Option Code) (ph:Phase) (v:Bool),v=jump.isNone→(∀ r':Loop,PhOK ph { r' with state:=if jump.isNone then .ready else .done,pending:=jump }) →
            (∃ h',LeE h ⟨[],s2.h.set id (.other (.loop t3 ps3 a3 b3 ph))⟩ ⟨[],h'⟩∧R (.bool v) h') →
            ∃ c w',(Instr.endRound l.blk jump).run P w2=.ok c w'∧CallPost P B σ h w R (.returned c) w':=by
          rintro jump ph v rfl hph2 ⟨h',hle,hR⟩
          refine⟨_,_,run_endRound jump hblk2,?_⟩
          have hct2:Ctl w2 (w2.putObj l.blk (.loop { r2 with state:=if jump.isNone then .ready else .done,pending:=jump })):=Ctl.putObj w2 _ hblk2 (fun r' e=>by cases e;exact⟨_,rfl,rfl⟩) (by intro d e;cases e)
          have hk4:=q2.hk.put (x':=.loop t3 ps3 a3 b3 ph) hid2 hsl2 (.loop { r2 with state:=if jump.isNone then .ready else .done,pending:=jump }) ⟨_,rfl,n1,n2,n3,n4,n5,hph2 r2,n7⟩
          have hsim4:Sim P ⟨some l.blk,0⟩ B h.length r.tmps.size σ2 ⟨[],s2.h.set id (.other (.loop t3 ps3 a3 b3 ph))⟩ (w2.putObj l.blk (.loop { r2 with state:=if jump.isNone then .ready else .done,pending:=jump })) a2 :=
            ⟨hk4,fun _=>trivial,q2.hd.mono hct2 rfl,q2.hsz,by simpa using q2.hn⟩
          obtain⟨σ3,ag3,k3,gr3⟩:=hsim4.leE hk.closed hle
          exact⟨_,σ3,.bool jump.isNone,h',rfl,prefix_of_agree hk k3.hk k3.hn ((g1.trans q1).trans ag3),k3.hk,rfl,(hg12.trans (Grow.put (ob':=.other (.loop t3 ps3 a3 b3 ph)) hid2 rfl hsl2 _ hct2)).trans gr3,hR⟩
        cases e2 with
        | normal=>exact fin none .ready true rfl (fun _=>⟨rfl,rfl⟩) q4
        | ret=>exact fin (some .ret) (.done .ret) false rfl (fun _=>⟨rfl,rfl⟩) q4
        | exit k=>exact fin (some (.exit k)) (.done (.exit k)) false rfl (fun _=>⟨rfl,rfl⟩) q4
        | goto _=>exact q4.elim
        | panic _=>exact q4.elim
        | outgrown=>exact q4.elim
      · exact q4.elim
    · exact g4.elim
/-! ### Functions -/
inductive AR where
  | t (k:Nat)
  | cell1 (k:Nat)
  | cellN (k n:Nat)
def cres (P:Program):ResultVar→Option AR
  | .tmp t=>some (.t t)
  | .cell a ty=>match tyAgg P ty,tySize P ty with
    | some true,some n=>some (.cellN a n)
    | some false,some _=>some (.cell1 a)
    | _,_=>none
def cress (P:Program):List ResultVar→Option (List AR)
  | []=>some []
  | r :: rs=>match cres P r,cress P rs with
    | some a,some as=>some (a :: as)
    | _,_=>none
def AR.get (s:St):AR→Option AV
  | .t k=>some (lk s.t k)
  | .cell1 k=>match lk s.t k with
    | .ptr id off=>match rd s.h id off 1 with
      | some [v]=>some v
      | _=>none
    | _=>none
  | .cellN k n=>match lk s.t k with
    | .ptr id off=>(rd s.h id off n).map .agg
    | _=>none
def getAll (s:St):List AR→Option (List AV)
  | []=>some []
  | r :: rs=>match r.get s,getAll s rs with
    | some v,some vs=>some (v :: vs)
    | _,_=>none
def resV (s:St) (rs:List AR):Option AV :=
  match getAll s rs with
  | some [v]=>some v
  | some vs=>some (.tuple vs)
  | none=>none
def argsT:Nat→List AV→List (Nat × AV)
  | _,[]=>[]
  | k,v :: vs=>(k,v) :: argsT (k+1) vs
def Post (H:Heap) (rs:List AR) (R:AV→Heap→Prop) (e:Exit) (s:St):Prop :=
  (e=.normal∨e=.ret)∧∃ v,resV s rs=some v∧∃ v' h',((v'=v∧h'=s.h)∨Le H ⟨[(0,v)],s.h⟩ ⟨[(0,v')],h'⟩)∧R v' h'
section
variable {P:Program} {rnd:Rn}
def resOne (tmps:Array Value):ResultVar→Sem Value
  | .tmp t=>pure (tmps.getD t undef)
  | .cell a t=>do loadVar t (← asAddr (tmps.getD a undef))
theorem results_eq (fn:Func) (tmps:Array Value):results fn tmps=(do
    let vs ← fn.results.mapM (resOne tmps)
    pure (if h:vs.size=1 then vs[0] else .tuple vs)):=by
  unfold results
  congr 1
theorem getAll_rel {B n sz:Nat} {σ:Sg} {s:St} {w:World} {a:Act} (k:Sim P rnd B n sz σ s w a):∀ (rs:List ResultVar) (ars:List AR) (vs:List AV),cress P rs=some ars→getAll s ars=some vs →
    ∃ cs:List Value,(rs.mapM (resOne a.tmps)).run P w=.ok cs w∧RelL σ vs cs
  | [],ars,vs,h,hg=>by
    simp only [cress,Option.some.injEq] at h;subst h
    simp only [getAll,Option.some.injEq] at hg;subst hg
    exact⟨[],by simp,rfl⟩
  | r :: rs,ars,vs,h,hg=>by
    simp only [cress] at h
    split at h
    · rename_i ar ars' h1 h2
      simp only [Option.some.injEq] at h;subst h
      simp only [getAll] at hg
      split at hg
      · rename_i v vs' g1 g2
        simp only [Option.some.injEq] at hg;subst hg
        obtain⟨cs,e1,e2⟩:=getAll_rel k rs ars' vs' h2 g2
        have hone:∃ c,(resOne a.tmps r).run P w=.ok c w∧Rel σ v c:=by
          cases r with
          | tmp t =>
            simp only [cres,Option.some.injEq] at h1;subst h1
            simp only [AR.get,Option.some.injEq] at g1;subst g1
            exact⟨_,by simp [resOne],k.ht t⟩
          | cell b t =>
            simp only [cres] at h1
            split at h1
            · rename_i n' ha hn
              simp only [Option.some.injEq] at h1;subst h1
              simp only [AR.get] at g1
              split at g1
              · rename_i id off hp
                obtain⟨seg,hseg,rfl⟩:=map_some g1
                have rx:=k.ht b
                rw [hp] at rx
                obtain⟨l,hl,hv⟩:=rx
                obtain⟨cs',hrel,hlen,_,hcell⟩:=rd_cells k.hk hseg hl
                have:=run_loadCells_list (P:=P) w _ cs' hcell
                rw [hlen] at this
                exact⟨.agg cs'.toArray,by simp [resOne,hv,asAddr,loadVar,agg_run ha,size_run hn,this],_,rfl,hrel⟩
              · cases g1
            · rename_i ha hn
              simp only [Option.some.injEq] at h1;subst h1
              simp only [AR.get] at g1
              split at g1
              · rename_i id off hp
                split at g1
                · rename_i v' hrd
                  simp only [Option.some.injEq] at g1;subst g1
                  have rx:=k.ht b
                  rw [hp] at rx
                  obtain⟨l,hl,hv⟩:=rx
                  obtain⟨cs',hrel,hlen,_,hcell⟩:=rd_cells k.hk hrd hl
                  simp only [RelL] at hrel
                  obtain⟨c,cs'',rfl,hr,rfl⟩:=hrel
                  have h0:=hcell 0 c rfl
                  simp only [Addr.add,if_true] at h0
                  exact⟨c,by simp [resOne,hv,asAddr,loadVar,agg_run ha,h0],hr⟩
                · cases g1
              · cases g1
            · cases h1
        obtain⟨c,c1,c2⟩:=hone
        refine⟨c :: cs,?_,⟨c,cs,rfl,c2,e2⟩⟩
        rw [List.mapM_cons,Sem.run_bind,c1,Result.andThen_ok,Sem.run_bind,e1,Result.andThen_ok]
        rfl
      · cases hg
    · cases h
theorem results_rel {B n sz:Nat} {σ:Sg} {s:St} {w:World} {a:Act} (k:Sim P rnd B n sz σ s w a) {fn:Func} {ars:List AR} {v:AV} (h:cress P fn.results.toList=some ars) (hv:resV s ars=some v) :
    ∃ c,(results fn a.tmps).run P w=.ok c w∧Rel σ v c:=by
  unfold resV at hv
  cases hg:getAll s ars with
  | none=>simp [hg] at hv
  | some vs =>
    obtain⟨cs,e1,e2⟩:=getAll_rel (P:=P) k _ _ _ h hg
    have hrun:(results fn a.tmps).run P w=.ok (if h:cs.toArray.size=1 then cs.toArray[0] else .tuple cs.toArray) w:=by
      rw [results_eq,Sem.run_bind,Array.mapM_eq_mapM_toList]
      have e3:((List.toArray <$> fn.results.toList.mapM (resOne a.tmps)):Sem (Array Value)).run P w=.ok cs.toArray w:=by
        rw [← bind_pure_comp,Sem.run_bind,e1];rfl
      rw [e3];rfl
    rw [hg] at hv
    have hl:=e2.length
    match vs,cs,e2,hl,hv,hrun with
    | [x],[c],e2,_,hv,hrun =>
      simp only [Option.some.injEq] at hv;subst hv
      simp only [RelL] at e2
      obtain⟨c',_,h1,h2,_⟩:=e2
      simp only [List.cons.injEq] at h1
      exact⟨c,by simpa using hrun,by rw [h1.1];exact h2⟩
    | [],[],e2,_,hv,hrun =>
      simp only [Option.some.injEq] at hv;subst hv
      exact⟨.tuple #[],by simpa using hrun,⟨#[],rfl,rfl⟩⟩
    | x :: y :: r,c :: d :: q,e2,_,hv,hrun =>
      simp only [Option.some.injEq] at hv;subst hv
      exact⟨.tuple (c :: d :: q).toArray,by simpa using hrun,⟨_,rfl,e2⟩⟩
theorem argsT_rel {σ:Sg}:∀ (args:List AV) (cargs:List Value) (k0:Nat),RelL σ args cargs→∀ (k:Nat) (tail:List Value),Rel σ (lk (argsT k0 args) k) (if k0≤k then ((cargs++tail)[k-k0]?).getD undef else undef)
  | [],_,_,_,_,_=>trivial
  | v :: args,_,k0,h,k,tail=>by
    simp only [RelL] at h
    obtain⟨c,cs,rfl,h1,h2⟩:=h
    simp only [argsT,lk]
    by_cases hk:k0=k
    · subst hk;simpa using h1
    · simp only [hk,if_false]
      have:=argsT_rel args cs (k0+1) h2 k tail
      by_cases hle:k0+1≤k
      · rw [if_pos hle] at this
        rw [if_pos (by omega),show k-k0=(k-(k0+1))+1 by omega]
        simpa using this
      · rw [if_neg hle] at this
        have hlt:¬ k0≤k:=by omega
        rw [if_neg hlt];exact this
theorem leaves_marks {n:Nat} {fn:Func} {tmps:Array Value} {R:Ending→World→Prop}:∀ (Ds:List Nat) (w:World),Ds.Nodup→(∀ D∈Ds,w.heap[D]?=some (.deferred (some []))) →
    (∀ w',w.heap.size=w'.heap.size→w'.os=w.os→w'.tape=w.tape→w'.output=w.output→(∀ k,k ∉ Ds→w'.heap[k]?=w.heap[k]?)→∃ v,(results fn tmps).run P w'=.ok v w'∧R (.returned v) w') →
    LeavesInM Fence.wide n P fn tmps R (Ds.map mark) .returning w
  | [],w,_,_,h=>by
    obtain⟨v,h1,h2⟩:=h w rfl rfl rfl rfl (fun _ _=>rfl)
    exact⟨v,h1,h2⟩
  | D :: Ds,w,hnd,hm,h=>by
    rw [List.nodup_cons] at hnd
    have hD:=hm D (by simp)
    have hlt:=(Array.getElem?_eq_some_iff.1 hD).1
    refine⟨by simp,.inl ⟨D,_,rfl,run_takeDeferred hD,?_⟩⟩
    refine leaves_marks Ds _ hnd.2 (fun D' hD'=>?_) (fun w' e1 e2 e3 e4 e5=>?_)
    · rw [World.putObj_heap_other (by intro e;subst e;exact hnd.1 hD')];exact hm D' (by simp [hD'])
    · refine h w' (by simpa using e1) (e2.trans rfl) (e3.trans rfl) (e4.trans rfl) (fun k hk=>?_)
      simp only [List.mem_cons,not_or] at hk
      rw [e5 k hk.2,World.putObj_heap_other hk.1]
theorem acalls {f:FuncId} {fn:Func} {code:Code} {ac:AC} {ars:List AR} {args:List AV} {H:Heap} {R:AV→Heap→Prop} (hf:P.funcs[f]?=some fn) (hb:fn.body=some code)
    (hg:guardFun P f=true) (hc:comp P fn.ntmps code=some ac.erase) (hr:cress P fn.results.toList=some ars) (hl:args.length≤fn.ntmps)
    (h:Closed H→ac.wp P H (Post H ars R) ⟨argsT 0 args,H⟩):ACalls P f args H R:=by
  refine⟨hg,fun B σ w cargs hk hrel=>callsIn_wide.1 (callsIn_of_wp_marks (n:=0) hf hb trivial ?_)⟩
  have hlen:args.length=cargs.size:=by simpa using hrel.length
  have hsim:Sim P ⟨none,w.heap.size⟩ B H.length fn.ntmps σ ⟨argsT 0 args,H⟩ w { tmps:=cargs++Array.replicate (fn.ntmps-cargs.size) undef,defers:=[] }:=by
    refine⟨hk,fun k=>?_,⟨Nat.le_refl _,⟨[],rfl,by simp,by simp⟩,fun l e=>by cases e⟩,by simp;omega,Nat.le_refl _⟩
    have:=argsT_rel args cargs.toList 0 hrel k (List.replicate (fn.ntmps-cargs.size) undef)
    simp only [Nat.zero_le,if_true,Nat.sub_zero] at this
    have e:(cargs++Array.replicate (fn.ntmps-cargs.size) undef).getD k undef=((cargs.toList++List.replicate (fn.ntmps-cargs.size) undef)[k]?).getD undef:=by
      rw [Array.getD_eq_getD_getElem?,← Array.getElem?_toList]
      simp
    show Rel σ _ ((cargs++Array.replicate (fn.ntmps-cargs.size) undef).getD k undef)
    rw [e];exact this
  have hrun:=AC.sound (rnd:=⟨none,w.heap.size⟩) hk.closed code ac hc _ _ σ w _ hsim (h hk.closed)
  refine wpIn_mono (F:=Fence.wide) hrun ?_
  rintro e a' w' ⟨σ',s',g1,g2,g3,⟨he,v,hv,v',h',hle,hR⟩⟩
  obtain⟨hlo,⟨Ds,hDs,hnd,hmk⟩,_⟩:=g2.hd
  have fin:LeavesInM Fence.wide 0 P fn a'.tmps (CallPost P B σ H w R) a'.defers .returning w':=by
    rw [hDs]
    refine leaves_marks Ds w' hnd (fun D hD=>(hmk D hD).2) (fun w2 e1 e2 e3 e4 e5=>?_)
    have hblk:∀ k o,k<w'.heap.size→w'.heap[k]?=some o→(∀ d,o≠.deferred d)→w2.heap[k]?=some o:=by
      intro k o _ ho hno
      rw [e5 k (fun hm=>?_)];exact ho
      have:=(hmk k hm).2
      rw [ho] at this;simp only [Option.some.injEq] at this
      exact hno _ this
    have hk2:HeapOK P B σ' s'.h w2:=by
      refine⟨g2.hk.len,by rw [← e1];exact g2.hk.low,fun i o l hi hli=>?_,g2.hk.uniq⟩
      have hob:=g2.hk.obj i o l hi hli
      have hnoD:∀ l',l=some l'→o.live=true→l'.blk ∉ Ds∨∀ j (v:AV),o≠.cells (v :: j) false→True:=fun _ _ _=>.inr fun _ _ _=>trivial
      cases o with
      | dead=>trivial
      | other x =>
        cases l with
        | none=>exact hob
        | some l =>
          obtain⟨q0,q1,q2,q3⟩:=hob
          refine⟨by rw [← e1];exact q0,q1,q2,?_⟩
          have hnm:l.blk ∉ Ds:=by
            intro hm
            have:=(hmk _ hm).2
            rw [this] at q3
            cases x with
            | map es bs c=>obtain⟨_,e,_⟩:=q3;cases e
            | iter m a b c=>obtain⟨_,e,_⟩:=q3;cases e
            | loop=>obtain⟨_,e,_⟩:=q3;cases e
          rw [e5 _ hnm];exact q3
      | cells vs own =>
        cases l with
        | none=>exact hob
        | some l =>
          obtain⟨q0,q1,q2⟩:=hob
          refine⟨by rw [← e1];exact q0,fun j v hj=>?_,fun ho=>?_⟩
          · obtain⟨c,hc1,hc2⟩:=q1 j v hj
            refine⟨c,?_,hc2⟩
            have hnm:l.blk ∉ Ds:=by
              intro hm
              have hmm:=(hmk _ hm).2
              simp only [World.cell?,hmm] at hc1
              cases hc1
            simp only [World.cell?] at hc1 ⊢
            rw [e5 _ hnm];exact hc1
          · obtain⟨p1,p2,arr,e,p3,p4⟩:=q2 ho
            exact⟨p1,p2,arr,e,hblk _ _ q0 p3 (by intro d h;cases h),p4⟩
    have hsim2:Sim P ⟨none,0⟩ B H.length fn.ntmps σ' s' w2 { tmps:=a'.tmps,defers:=[] }:=⟨hk2,g2.ht,⟨Nat.zero_le _,⟨[],rfl,by simp,by simp⟩,fun l e=>by cases e⟩,g2.hsz,g2.hn⟩
    obtain⟨c,hrun2,hcv⟩:=results_rel hsim2 hr hv
    refine⟨c,hrun2,?_⟩
    have hgr2:Grow σ H w σ' s'.h w2:=by
      refine⟨e2.trans g3.os,e3.trans g3.tape,e4.trans g3.output,by rw [← e1];exact g3.size,fun k hkl hno=>?_,g3.owns,g3.lives,?_⟩
      · rw [e5 k (fun hm=>by have:=(hmk k hm).1;simp at this;omega)];exact g3.frame k hkl hno
      · refine⟨by rw [← e1];exact g3.size,fun k r hrr=>?_,fun k hkd=>?_⟩
        · obtain⟨r',hr1,hr2⟩:=g3.ctl.loop k r hrr
          exact⟨r',hblk k _ (Array.getElem?_eq_some_iff.1 hr1).1 hr1 (by intro d h;cases h),hr2⟩
        · have hkw:=g3.ctl.mark k hkd
          have hlt:=(Array.getElem?_eq_some_iff.1 hkd).1
          rw [e5 k (fun hm=>by have:=(hmk k hm).1;simp at this;omega)];exact hkw
    rcases hle with⟨rfl,rfl⟩|hle
    · exact⟨c,σ',v',s'.h,rfl,prefix_of_agree hk hk2 g2.hn g1,hk2,hcv,hgr2,hR⟩
    · have k1:Sim P ⟨none,0⟩ B H.length 1 σ' ⟨[(0,v)],s'.h⟩ w2 { tmps:=#[c],defers:=[] }:=by
        refine⟨hk2,fun k=>?_,⟨Nat.zero_le _,⟨[],rfl,by simp,by simp⟩,fun l e=>by cases e⟩,rfl,g2.hn⟩
        show Rel σ' (lk [(0,v)] k) _
        simp only [lk]
        by_cases hk0:0=k
        · subst hk0;simpa using hcv
        · simp only [hk0,if_false];trivial
      obtain⟨σ2,ag2,k2,gr2⟩:=k1.le hk.closed hle
      have hv2:Rel σ2 v' c:=by have:=k2.ht 0;simpa [lk] using this
      exact⟨c,σ2,v',h',rfl,prefix_of_agree hk k2.hk k2.hn (g1.trans ag2),k2.hk,hv2,hgr2.trans gr2,hR⟩
  rcases he with rfl|rfl <;> exact fin
def FnOK (P:Program) (f:FuncId) (ac:AC) (ars:List AR) (n:Nat):Prop :=
  ∃ fn,P.funcs[f]?=some fn∧fn.body.bind (comp P fn.ntmps)=some ac.erase∧guardFun P f=true∧cress P fn.results.toList=some ars∧decide (n≤fn.ntmps)=true
theorem FnOK.calls {f:FuncId} {ac:AC} {ars:List AR} {n:Nat} {args:List AV} {H:Heap} {R:AV→Heap→Prop} (h:FnOK P f ac ars n) (hl:args.length=n)
    (hw:Closed H→ac.wp P H (Post H ars R) ⟨argsT 0 args,H⟩):ACalls P f args H R:=by
  obtain⟨fn,h1,h2,h3,h4,h5⟩:=h
  cases hb:fn.body with
  | none=>rw [hb] at h2;cases h2
  | some code =>
    rw [hb] at h2
    exact acalls h1 hb h3 h2 h4 (by rw [hl];simpa using h5) hw
end
end Go.Abs
