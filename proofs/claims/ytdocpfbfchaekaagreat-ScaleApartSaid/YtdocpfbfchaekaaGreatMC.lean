/- Several texts as one. -/
import Derived.Test.YtdocpfbfchaekaaGreatMB
import Derived.Deep.LoopGhost
/- Regions,calls and code over abstract states. -/
namespace Go.Abs
open Go.RowKit
def ACalls (P:Program) (f:FuncId) (args:List AV) (h:Heap) (R:AV→Heap→Prop):Prop :=
  guardFun P f=true∧∀ (B:Nat) (σ:Sg) (w:World) (cargs:Array Value),HeapOK P B σ h w→RelL σ args cargs.toList →
    Calls P f cargs w (fun e w'=>∃ c σ' v h',e=.returned c∧(∃ τ,σ'=σ++τ)∧HeapOK P B σ' h' w'∧Rel σ' v c∧Grow σ h w σ' h' w'∧R v h')
theorem ACalls.mono {P:Program} {f:FuncId} {args:List AV} {h:Heap} {R R':AV→Heap→Prop} (k:ACalls P f args h R) (hr:∀ v h',R v h'→R' v h'):ACalls P f args h R' :=
  ⟨k.1,fun B σ w cargs a b=>(k.2 B σ w cargs a b).mono fun _ _ ⟨c,σ',v,h',e1,e2,e3,e4,e5,e6⟩=>⟨c,σ',v,h',e1,e2,e3,e4,e5,hr _ _ e6⟩⟩
def RF (rnd:Rn):Fence:={ Fence.wide with round:=rnd.rd }
def CallPost (P:Program) (B:Nat) (σ:Sg) (h:Heap) (w:World) (R:AV→Heap→Prop) (e:Ending) (w':World):Prop :=
  ∃ c σ' v h',e=.returned c∧(∃ τ,σ'=σ++τ)∧HeapOK P B σ' h' w'∧Rel σ' v c∧Grow σ h w σ' h' w'∧R v h'
def AYields (P:Program) (id:Nat) (args:List AV) (h:Heap) (R:AV→Heap→Prop):Prop :=
  ∀ (B:Nat) (σ:Sg) (w:World) (cargs:Array Value),HeapOK P B σ h w→RelL σ args cargs.toList →
    ∃ (l:Loc) (fn:FuncId) (tmps:Array Value) (assign body:Code),σ[id]?=some (some l)∧(Instr.yield l.blk cargs).run P w=.ok (.round l.blk fn tmps assign body) w ∧
      RoundIn Fence.wide 0 P l.blk fn tmps assign body w (CallPost P B σ h w R)
theorem AYields.mono {P:Program} {id:Nat} {args:List AV} {h:Heap} {R R':AV→Heap→Prop} (k:AYields P id args h R) (hr:∀ v h',R v h'→R' v h'):AYields P id args h R' :=
  fun B σ w cargs a b=>let ⟨l,fn,tm,as,bo,h1,h2,h3⟩:=k B σ w cargs a b
    ⟨l,fn,tm,as,bo,h1,h2,h3.mono fun _ _ ⟨c,σ',v,h',e1,e2,e3,e4,e5,e6⟩=>⟨c,σ',v,h',e1,e2,e3,e4,e5,hr _ _ e6⟩⟩
def St.put (s:St) (dst:Option Nat) (v:AV) (h:Heap):St :=
  match dst with
  | some d=>⟨(d,v) :: s.t,h⟩
  | none=>⟨s.t,h⟩
theorem put_h (s:St) (dst:Option Nat) (v:AV) (h:Heap):(s.put dst v h).h=h:=by cases dst <;> rfl
def St.ev (s:St) (x:AOpd):AV:=x.ev s.t
def AO.run (P:Program) (o:AO) (K:St→Prop) (s:St):Prop :=
  match o.op with
  | .callF f args=>∃ R,ACalls P f (args.map (AOpd.ev s.t)) s.h R∧∀ v h',R v h'→K (s.put o.dst v h')
  | .callV f args=>match f.ev s.t with
    | .fn (.func f) first caps=>∃ R,ACalls P f (first++args.map (AOpd.ev s.t)++caps) s.h R∧∀ v h',R v h'→K (s.put o.dst v h')
    | .yield id=>∃ R,AYields P id (args.map (AOpd.ev s.t)) s.h R∧∀ v h',R v h'→K (s.put o.dst v h')
    | _=>False
  | .nextM i=>nextAny (i.ev s.t) s.h (fun v h'=>K (s.put o.dst v h'))
  | op=>op.sem (AOpd.ev s.t) s.h (fun v h'=>K (s.put o.dst v h'))
def AO.wp (P:Program) (o:AO) (K:St→Prop) (s:St):Prop :=
  match o.guard with
  | none=>o.run P K s
  | some (g,want)=>match lk s.t g with
    | .bool b=>if b=want then o.run P K s else K (s.put o.dst (.tuple []) s.h)
    | .tuple []=>K (s.put o.dst (.tuple []) s.h)
    | _=>False
def AOs.wp (P:Program):List AO→(St→Prop)→St→Prop
  | [],K,s=>K s
  | o :: os,K,s=>o.wp P (fun s'=>AOs.wp P os K s') s
/-! ### The model's regions -/
section
variable {P:Program} {rnd:Rn} {B n sz:Nat} {σ:Sg} {w:World} {a:Act} {s:St}
theorem tok_put {σ:Sg} {t:List (Nat × AV)} {a:Act} (ht:TOK σ t a) {d:Nat} (hd:d<a.tmps.size) {v:AV} {c:Value} (hv:Rel σ v c):TOK σ ((d,v) :: t) (a.put (some d) c):=by
  intro k
  simp only [lk,Act.put]
  by_cases hk:d=k
  · subst hk
    simp only [if_true]
    have:(a.tmps.setIfInBounds d c).getD d undef=c:=by simp [Array.getD,hd]
    rw [this];exact hv
  · simp only [hk,if_false]
    have:(a.tmps.setIfInBounds d c).getD k undef=a.tmps.getD k undef:=by
      simp only [Array.getD_eq_getD_getElem?,Array.getElem?_setIfInBounds,hk,if_false]
    rw [this];exact ht k
theorem ext_agree {σ σ':Sg} {n:Nat} (h:∃ τ,σ'=σ++τ) (hn:n≤σ.length):Agree n σ σ':=by
  obtain⟨τ,rfl⟩:=h;exact Agree.app hn
theorem pre_ext {σ σ':Sg} (h:∃ τ,σ'=σ++τ):Ext σ σ':=by
  obtain⟨τ,rfl⟩:=h;exact Ext.app _ _
theorem Sim.put (k:Sim P rnd B n sz σ s w a) {σ':Sg} {h':Heap} {w':World} {v:AV} {c:Value} (he:Ext σ σ') (hk:HeapOK P B σ' h' w') (hv:Rel σ' v c) (hct:Ctl w w')
    {dst:Option Nat} (hd:∀ d,dst=some d→d<sz):Sim P rnd B n sz σ' (s.put dst v h') w' (a.put dst c):=by
  have hn':n≤h'.length:=by
    have h1:=k.hn;have h2:=k.hk.len;have h3:=hk.len;have h4:=he.1
    omega
  cases dst with
  | none=>exact⟨hk,k.ht.mono he,k.hd.mono hct rfl,k.hsz,hn'⟩
  | some d =>
    refine⟨hk,tok_put (k.ht.mono he) (by rw [k.hsz];exact hd d rfl) hv,k.hd.mono hct rfl,?_,hn'⟩
    simp only [Act.put,Array.size_setIfInBounds];exact k.hsz
def Left (P:Program) (rnd:Rn) (B n sz:Nat) (σ:Sg) (h:Heap) (w:World) (K:St→Prop) (a':Act) (w':World):Prop :=
  ∃ σ' s',Agree n σ σ'∧Sim P rnd B n sz σ' s' w' a'∧Grow σ h w σ' s'.h w'∧K s'
theorem Left.of {P:Program} {rnd:Rn} {B n sz:Nat} {σ σ1:Sg} {g g1:Heap} {w w1 w':World} {a':Act} {K:St→Prop} (h1:Agree n σ σ1) (h2:Grow σ g w σ1 g1 w1) (h:Left P rnd B n sz σ1 g1 w1 K a' w'):Left P rnd B n sz σ g w K a' w':=by
  obtain⟨σ',s',a1,a2,a3,a4⟩:=h
  exact⟨σ',s',h1.trans a1,a2,h2.trans a3,a4⟩
theorem guardFun_call {f:FuncId} (hg:guardFun P f=true) (args:Array Value):(callFunc f args).run P w=.ok (.enter f args) w:=by
  unfold guardFun at hg
  split at hg
  · rename_i fn hf
    simp only [Bool.and_eq_true,bne_iff_ne,ne_eq] at hg
    have h1:¬ fn.name="runtime.NumGoroutine":=hg.2
    have h2:¬ fn.body=none:=by intro hb;rw [hb] at hg;simp at hg
    simp [callFunc,hf,h1,h2]
  · cases hg
theorem cCall_cases {o:Oper} {op:AOp} (h:cCall P o=some op) :
    (∃ f args ats as,o.op=.call ⟨.value (.func f),args,ats⟩∧guardFun P f=true∧copds args.toList=some as∧op=.callF f as) ∨
    (∃ i args ats as,o.op=.call ⟨.value (.tmp i),args,ats⟩∧copds args.toList=some as∧op=.callV (.t i) as):=by
  unfold cCall at h
  split at h
  · rename_i f args ats ho
    split at h
    · rename_i hg
      obtain⟨as,h1,h2⟩:=map_some h
      exact .inl ⟨f,args,ats,as,ho,hg,h1,h2.symm⟩
    · cases h
  · rename_i i args ats ho
    obtain⟨as,h1,h2⟩:=map_some h
    exact .inr ⟨i,args,ats,as,ho,h1,h2.symm⟩
  · cases h
theorem cop_defer {o:Oper} {op:AOp} (h:cop P o=some op):∀ c,o.op≠.defer c:=by
  intro c e
  unfold cop at h
  rw [e] at h
  cases h
theorem semAt_rf {o:Oper} (h:∀ c,o.op≠.defer c):o.semAt rnd.rd a.eval=execOp a.eval o:=by
  obtain⟨rd,lo⟩:=rnd
  cases rd with
  | none=>exact Oper.semAt_none _ _
  | some l=>exact Oper.semAt_some l _ o h
theorem wpIn_of {o:Oper} {next:Act→World→Prop} {Q:Exit→Act→World→Prop} (hd:∀ c,o.op≠.defer c) (h:o.uponIn (RF rnd) 0 P a next Q ((execOp a.eval o).run P w)):o.wpIn (RF rnd) 0 P a w next Q :=
  ⟨fun _ _=>trivial,by
    have e:o.semAt (RF rnd).round a.eval=execOp a.eval o:=semAt_rf hd
    rw [e];exact h⟩
theorem depth_rf {n:Nat}:(RF rnd).depth.isSome=true→1≤n:=fun h=>by cases h
theorem AO.run_sound {ops:Array Oper} {o:Oper} {ao:AO} (hc:cAO P sz ops o=some ao) (k:Sim P rnd B n sz σ s w a) {K:St→Prop} (hs:ao.run P K s)
    {next:Act→World→Prop} {Q:Exit→Act→World→Prop} (hnext:∀ a' w',Left P rnd B n sz σ s.h w K a' w'→next a' w'):o.wpIn (RF rnd) 0 P a w next Q:=by
  have hnσ:n≤σ.length:=by rw [k.hk.len];exact k.hn
  unfold cAO at hc
  split at hc
  · rename_i op g h1 h2
    split at hc
    · rename_i hd
      simp only [Option.some.injEq] at hc;subst hc
      have hdst:∀ d,o.dst=some d→d<sz:=by
        intro d he
        rw [he] at hd
        simpa [dstOk] using hd
      have post:∀ (R:AV→Heap→Prop),(∀ v h',R v h'→K (s.put o.dst v h'))→∀ (c:Value) (σ':Sg) (v:AV) (h':Heap) (w':World),(∃ τ,σ'=σ++τ)→HeapOK P B σ' h' w'→Rel σ' v c→Grow σ s.h w σ' h' w'→R v h'→next (a.put o.dst c) w' :=
        fun R hK c σ' v h' w' e2 e3 e4 e5 e6=>hnext _ _ ⟨σ',_,ext_agree e2 hnσ,k.put (pre_ext e2) e3 e4 e5.ctl hdst,by rw [put_h];exact e5,hK v h' e6⟩
      have call:(∀ c,o.op≠.defer c)→∀ (f:FuncId) (args:List AV) (cargs:Array Value) (R:AV→Heap→Prop),(execOp a.eval o).run P w=.ok (.enter f cargs) w→RelL σ args cargs.toList →
          ACalls P f args s.h R→(∀ v h',R v h'→K (s.put o.dst v h'))→o.wpIn (RF rnd) 0 P a w next Q:=by
        intro hdf f args cargs R hrun hrel hcall hK
        refine wpIn_of hdf ?_
        rw [hrun,Oper.uponIn_enter]
        refine⟨depth_rf,?_⟩
        have hcc:CallsIn Fence.wide (0-1) P f cargs w _:=callsIn_wide.2 (hcall.2 B σ w cargs k.hk hrel)
        refine CallsIn.mono (F:=RF rnd) hcc ?_
        rintro e w' ⟨c,σ',v,h',rfl,e2,e3,e4,e5,e6⟩
        exact post R hK c σ' v h' w' e2 e3 e4 e5 e6
      unfold cOp at h1
      split at h1
      · rename_i op' hcc
        simp only [Option.some.injEq] at h1;subst h1
        rcases cCall_cases hcc with⟨f,args,ats,as,ho,hg,hca,rfl⟩|⟨i,args,ats,as,ho,hca,rfl⟩
        · obtain⟨R,hcall,hK⟩:=hs
          refine call (by intro c e;rw [ho] at e;cases e) f _ (args.map a.eval) R ?_ (by simpa using copds_rel k.ht hca) hcall hK
          simp [execOp,ho,resolve,Deferred.ofValue,Act.eval,invoke,guardFun_call hg]
        · simp only [AO.run,AOpd.ev] at hs
          have hdf:∀ c,o.op≠.defer c:=by intro c e;rw [ho] at e;cases e
          split at hs
          · rename_i f first caps hf
            obtain⟨R,hcall,hK⟩:=hs
            have hv:=k.ht i
            rw [hf] at hv
            obtain⟨fa,ca,hv1,hv2,hv3⟩:=hv
            refine call hdf f _ (fa++args.map a.eval++ca) R ?_ ?_ hcall hK
            · have:a.eval (.tmp i)=.func (.func f) fa ca:=hv1
              simp [execOp,ho,resolve,Deferred.ofValue,this,invoke,guardFun_call hcall.1]
            · have:=RelL.append (RelL.append hv2 (copds_rel k.ht hca)) hv3
              simpa using this
          · rename_i id hf
            obtain⟨R,hy,hK⟩:=hs
            have hv:=k.ht i
            rw [hf] at hv
            obtain⟨l0,hv1,hv2⟩:=hv
            obtain⟨l,fn,tm,as',bo,q1,q2,q3⟩:=hy B σ w (args.map a.eval) k.hk (by simpa using copds_rel k.ht hca)
            have el:l=l0:=by rw [hv1] at q1;cases q1;rfl
            subst el
            refine wpIn_of hdf ?_
            have:a.eval (.tmp i)=.func (.yield l.blk) #[] #[]:=hv2
            have hrun:(execOp a.eval o).run P w=.ok (.round l.blk fn tm as' bo) w:=by
              have e0:(#[]:Array Value)++args.map a.eval=args.map a.eval:=by simp
              simp [execOp,ho,resolve,Deferred.ofValue,this,invoke,q2]
            rw [hrun,Oper.uponIn_round]
            refine⟨depth_rf,RoundIn.mono (F:=RF rnd) q3 ?_⟩
            rintro e w' ⟨c,σ',v,h',rfl,e2,e3,e4,e5,e6⟩
            exact post R hK c σ' v h' w' e2 e3 e4 e5 e6
          · cases hs
      · split at h1
        · rename_i op' hop
          split at h1
          · cases h1
          · rename_i hnc
            simp only [Option.some.injEq] at h1;subst h1
            have hres:Res P B σ s.h w o a (fun v h'=>K (s.put o.dst v h')):=by
              refine AOp.soundN hop k.hk k.ht ?_
              cases op' <;> first|exact hs|(simp [AOp.isCall] at hnc;done)
            obtain⟨c,w',τ,v,h',hr,g1,g2,g3,g4⟩:=hres
            have hl:Left P rnd B n sz σ s.h w K (a.put o.dst c) w':=⟨σ++τ,_,Agree.app hnσ,k.put (Ext.app _ _) g1 g2 g3.ctl hdst,by rw [put_h];exact g3,g4⟩
            refine wpIn_of (cop_defer hop) ?_
            rcases hr with hr|⟨rfl,hr⟩
            · rw [hr];exact hnext _ _ hl
            · rw [hr];exact hnext _ _ hl
        · simp only [Option.some.injEq] at h1;subst h1
          exact hs.elim
    · cases hc
  · cases hc
theorem AO.sound {ops:Array Oper} {o:Oper} {ao:AO} (hc:cAO P sz ops o=some ao) (k:Sim P rnd B n sz σ s w a) {K:St→Prop} (hs:ao.wp P K s)
    {next:Act→World→Prop} {Q:Exit→Act→World→Prop} (hnext:∀ a' w',Left P rnd B n sz σ s.h w K a' w'→next a' w') :
    if Region.wanted o (yielded ops a.tmps) then o.wpIn (RF rnd) 0 P a w next Q else next (a.put o.dst undef) w:=by
  have hc':=hc
  unfold cAO at hc
  split at hc
  · rename_i op g h1 h2
    split at hc
    · rename_i hd
      simp only [Option.some.injEq] at hc;subst hc
      have hdst:∀ d,o.dst=some d→d<sz:=by
        intro d he
        rw [he] at hd
        simpa [dstOk] using hd
      have skip:K (s.put o.dst (.tuple []) s.h)→next (a.put o.dst undef) w:=fun hK =>
        hnext _ _ ⟨σ,_,Agree.refl _ _,k.put (v:=.tuple []) (c:=undef) (Ext.refl σ) k.hk ⟨#[],rfl,rfl⟩ (Ctl.refl _) hdst,by rw [put_h];exact Grow.refl _ _ _,hK⟩
      unfold cguard at h2
      unfold AO.wp at hs
      split at h2
      · rename_i hg
        simp only [Option.some.injEq] at h2;subst h2
        simp only [Region.wanted,hg,if_true]
        exact AO.run_sound hc' k hs hnext
      · rename_i j want hg
        split at h2
        · rename_i d hj
          simp only [Option.some.injEq] at h2;subst h2
          simp only at hs
          have hy:yielded ops a.tmps j=match a.tmps[d]? with|some (.bool b)=>some b|_=>none:=by
            simp only [yielded,hj,Option.bind_some]
            cases a.tmps[d]? with
            | none=>rfl
            | some v=>cases v <;> rfl
          have ht:=k.ht d
          split at hs
          · rename_i b hb
            rw [hb] at ht
            simp only [Rel] at ht
            have hget:a.tmps[d]?=some (.bool b):=by
              simp only [Array.getD_eq_getD_getElem?] at ht
              cases hq:a.tmps[d]? with
              | none=>rw [hq] at ht;cases ht
              | some v=>rw [hq] at ht;simp only [Option.getD_some] at ht;rw [ht]
            rw [hget] at hy
            simp only at hy
            split at hs
            · rename_i hbw
              subst hbw
              simp only [Region.wanted,hg,hy,beq_self_eq_true,if_true]
              exact AO.run_sound hc' k hs hnext
            · rename_i hbw
              have:(some b == some want)=false:=by simp [hbw]
              simp only [Region.wanted,hg,hy,this,Bool.false_eq_true,if_false]
              exact skip hs
          · rename_i hb
            rw [hb] at ht
            obtain⟨arr,ht1,_⟩:=ht
            have hy':yielded ops a.tmps j=none:=by
              rw [hy]
              simp only [Array.getD_eq_getD_getElem?] at ht1
              cases hq:a.tmps[d]? with
              | none=>rfl
              | some v=>rw [hq] at ht1;simp only [Option.getD_some] at ht1;rw [ht1]
            have:((none:Option Bool) == some want)=false:=rfl
            simp only [Region.wanted,hg,hy',this,Bool.false_eq_true,if_false]
            exact skip hs
          · cases hs
        · cases h2
    · cases hc
  · cases hc
theorem AOs.sound {ops:Array Oper} {Q:Exit→Act→World→Prop}:∀ (l:List Oper) (al:List AO) (s:St) (σ:Sg) (w:World) (a:Act) (K:St→Prop),cAOs P sz ops l=some al→Sim P rnd B n sz σ s w a→AOs.wp P al K s →
    (∀ a' w',Left P rnd B n sz σ s.h w K a' w'→Q .normal a' w')→wpListIn (RF rnd) 0 P ops Q l a w
  | [],al,s,σ,w,a,K,hc,k,hs,hQ=>by
    simp only [cAOs,Option.some.injEq] at hc;subst hc
    exact hQ _ _ ⟨σ,s,Agree.refl _ _,k,Grow.refl _ _ _,hs⟩
  | o :: l,al,s,σ,w,a,K,hc,k,hs,hQ=>by
    simp only [cAOs] at hc
    split at hc
    · rename_i ao al' h1 h2
      simp only [Option.some.injEq] at hc;subst hc
      have key:=AO.sound (P:=P) (next:=wpListIn (RF rnd) 0 P ops Q l) (Q:=Q) h1 k hs (by
        rintro a' w' ⟨σ',s',g1,g2,g3,g4⟩
        exact AOs.sound l al' s' σ' w' a' K h2 g2 g4 (fun a'' w'' hl=>hQ _ _ (hl.of g1 g3)))
      unfold wpListIn
      split
      · rename_i hw;rw [if_pos hw] at key;exact key
      · rename_i hw;rw [if_neg hw] at key;exact⟨fun _ _=>trivial,key⟩
    · cases hc
end
theorem lk_prune (t:List (Nat × AV)):∀ (ks:List Nat) (k:Nat),lk (ks.map fun k=>(k,lk t k)) k=.junk∨lk (ks.map fun k=>(k,lk t k)) k=lk t k
  | [],k=>.inl rfl
  | j :: ks,k=>by
    simp only [List.map_cons,lk]
    by_cases h:j=k
    · subst h;simp
    · simp only [h,if_false];exact lk_prune t ks k
end Go.Abs
/- Regions that draw their order: what is asked of them,and how an order runs. First part: laws of single operations. -/
namespace Go.Abs
open Go.RowKit
section
variable {t t':List (Nat × AV)}
theorem ev_congr {x:AOpd} (h:∀ k∈opdSlots x,lk t k=lk t' k):x.ev t=x.ev t':=by
  cases x with
  | t i=>exact h i (by simp [opdSlots])
  | c v=>rfl
theorem evs_congr:∀ {xs:List AOpd},(∀ k∈opdsSlots xs,lk t k=lk t' k)→xs.map (AOpd.ev t)=xs.map (AOpd.ev t')
  | [],_=>rfl
  | x :: xs,h=>by
    simp only [opdsSlots,List.mem_append] at h
    simp only [List.map_cons,ev_congr (fun k hk=>h k (.inl hk)),evs_congr (fun k hk=>h k (.inr hk))]
theorem opt_congr {x:Option AOpd} (h:∀ k∈opdsSlots x.toList,lk t k=lk t' k):x.map (AOpd.ev t)=x.map (AOpd.ev t'):=by
  cases x with
  | none=>rfl
  | some x=>simp only [Option.toList_some,opdsSlots,List.append_nil] at h;simp only [Option.map_some,ev_congr h]
theorem fill_congr:∀ {ps:List (Nat × Nat × AOpd)} (cs:List AV),(∀ k∈partSlots ps,lk t k=lk t' k)→fillA (AOpd.ev t) cs ps=fillA (AOpd.ev t') cs ps
  | [],_,_=>rfl
  | (off,n,x) :: ps,cs,h=>by
    simp only [partSlots,List.mem_append] at h
    simp only [fillA,ev_congr (fun k hk=>h k (.inl hk))]
    split
    · split
      · exact fill_congr _ (fun k hk=>h k (.inr hk))
      · rfl
    · rfl
theorem sem_congr {op:AOp} {h:Heap} {K:AV→Heap→Prop} (he:∀ k∈op.slots,lk t k=lk t' k) (hs:op.sem (AOpd.ev t) h K):op.sem (AOpd.ev t') h K:=by
  cases op <;> simp only [AOp.slots,List.mem_append] at he
  case alloc=>exact hs
  case bad=>exact hs
  case makeMap=>exact hs
  case mapPut k x y z =>
    simp only [AOp.sem] at hs ⊢
    rw [← ev_congr (x:=x) (fun k hk=>he k (.inl (.inl hk))),← ev_congr (x:=y) (fun k hk=>he k (.inl (.inr hk))),← ev_congr (x:=z) (fun k hk=>he k (.inr hk))];exact hs
  case callF=>exact hs
  case callV=>exact hs
  case build zs ps=>simp only [AOp.sem] at hs ⊢;rw [← fill_congr zs he];exact hs
  case buildSlice zs ps len sz=>simp only [AOp.sem] at hs ⊢;rw [← fill_congr zs he];exact hs
  case mkfn f a b =>
    simp only [AOp.sem] at hs ⊢
    rw [← evs_congr (fun k hk=>he k (.inl hk)),← evs_congr (fun k hk=>he k (.inr hk))];exact hs
  case slice x lo hi sz =>
    simp only [AOp.sem] at hs ⊢
    rw [← ev_congr (fun k hk=>he k (.inl (.inl hk))),← opt_congr (fun k hk=>he k (.inl (.inr hk))),← opt_congr (fun k hk=>he k (.inr hk))];exact hs
  case sSlice x lo hi =>
    simp only [AOp.sem] at hs ⊢
    rw [← ev_congr (fun k hk=>he k (.inl (.inl hk))),← opt_congr (fun k hk=>he k (.inl (.inr hk))),← opt_congr (fun k hk=>he k (.inr hk))];exact hs
  case slice3 x lo hi mx sz =>
    simp only [AOp.sem] at hs ⊢
    rw [← ev_congr (fun k hk=>he k (.inl (.inl (.inl hk)))),← opt_congr (fun k hk=>he k (.inl (.inl (.inr hk)))),← ev_congr (x:=hi) (fun k hk=>he k (.inl (.inr hk))),← ev_congr (x:=mx) (fun k hk=>he k (.inr hk))];exact hs
  case pick a b c =>
    simp only [AOp.sem] at hs ⊢
    rw [← ev_congr (x:=a) (fun k hk=>he k (.inl (.inl hk))),← ev_congr (x:=b) (fun k hk=>he k (.inl (.inr hk))),← ev_congr (x:=c) (fun k hk=>he k (.inr hk))];exact hs
  all_goals first
    | (simp only [AOp.sem] at hs ⊢;rw [← ev_congr he];exact hs)
    | (rename_i x y;simp only [AOp.sem] at hs ⊢;rw [← ev_congr (fun k hk=>he k (.inl hk)),← ev_congr (x:=y) (fun k hk=>he k (.inr hk))];exact hs)
    | (rename_i x y _;simp only [AOp.sem] at hs ⊢;rw [← ev_congr (fun k hk=>he k (.inl hk)),← ev_congr (x:=y) (fun k hk=>he k (.inr hk))];exact hs)
    | (rename_i x y _ _;simp only [AOp.sem] at hs ⊢;rw [← ev_congr (fun k hk=>he k (.inl hk)),← ev_congr (x:=y) (fun k hk=>he k (.inr hk))];exact hs)
    | (rename_i _ x y;simp only [AOp.sem] at hs ⊢;rw [← ev_congr (x:=x) (fun k hk=>he k (.inl hk)),← ev_congr (x:=y) (fun k hk=>he k (.inr hk))];exact hs)
    | (rename_i _ _ _ x y;simp only [AOp.sem] at hs ⊢;rw [← ev_congr (x:=x) (fun k hk=>he k (.inl hk)),← ev_congr (x:=y) (fun k hk=>he k (.inr hk))];exact hs)
    | (rename_i x _ y;simp only [AOp.sem] at hs ⊢;rw [← ev_congr (fun k hk=>he k (.inl hk)),← ev_congr (x:=y) (fun k hk=>he k (.inr hk))];exact hs)
    | skip
end
theorem sem_ex {op:AOp} {ev:AOpd→AV} {h:Heap} {K:AV→Heap→Prop} (hs:op.sem ev h K):∃ v h',K v h'∧op.sem ev h (fun v' h''=>v'=v∧h''=h'):=by
  cases op
  case min2 x y =>
    simp only [AOp.sem] at hs ⊢
    split at hs
    · exact⟨_,_,hs,by simp⟩
    · cases hs
  case max2 x y =>
    simp only [AOp.sem] at hs ⊢
    split at hs
    · exact⟨_,_,hs,by simp⟩
    · cases hs
  case index1 x i n =>
    simp only [AOp.sem] at hs ⊢
    split at hs
    · obtain⟨h0,h1,v,h2,h3⟩:=hs
      exact⟨v,h,h3,h0,h1,v,h2,rfl,rfl⟩
    · cases hs
  case bin op x y =>
    have plain:(∃ v,binA op (ev x) (ev y)=some v∧K v h)→∃ v h',K v h'∧(match binA op (ev x) (ev y) with|some v2=>v2=v∧h=h'|none=>False):=by
      rintro⟨v,hv,hK⟩
      exact⟨v,h,hK,by rw [hv];exact⟨rfl,rfl⟩⟩
    cases op
    case quo =>
      simp only [AOp.sem,divA] at hs ⊢
      split at hs
      · obtain⟨h0,h1,h2⟩:=hs;exact⟨_,_,h2,h0,h1,rfl,rfl⟩
      · cases hs
    case rem =>
      simp only [AOp.sem,divA] at hs ⊢
      split at hs
      · obtain⟨h0,h1,h2⟩:=hs;exact⟨_,_,h2,h0,h1,rfl,rfl⟩
      · cases hs
    all_goals
      simp only [AOp.sem] at hs ⊢
      refine plain ?_
      split at hs
      · rename_i v hv;exact⟨v,hv,hs⟩
      · cases hs
  all_goals (simp only [AOp.sem] at hs ⊢ <;> (repeat' split at hs) <;> simp_all)
theorem sem_pure {op:AOp} {ev:AOpd→AV} {h h2:Heap} {v:AV} {h':Heap} (hc:op.cls=0) (hs:op.sem ev h (fun v' h''=>v'=v∧h''=h')):h'=h∧op.sem ev h2 (fun v' h''=>v'=v∧h''=h2):=by
  cases op
  case min2 x y =>
    simp only [AOp.sem] at hs ⊢
    split at hs
    · exact⟨hs.2.symm,by simp [hs.1]⟩
    · cases hs
  case max2 x y =>
    simp only [AOp.sem] at hs ⊢
    split at hs
    · exact⟨hs.2.symm,by simp [hs.1]⟩
    · cases hs
  case index1 x i n =>
    simp only [AOp.sem] at hs ⊢
    split at hs
    · obtain⟨h0,h1,u,h2,h3,h4⟩:=hs
      exact⟨h4.symm,h0,h1,u,h2,h3,trivial⟩
    · cases hs
  case bin op x y =>
    cases op
    case quo =>
      simp only [AOp.sem,divA] at hs ⊢
      split at hs
      · obtain⟨h0,h1,h2,h3⟩:=hs;exact⟨h3.symm,h0,h1,h2,trivial⟩
      · cases hs
    case rem =>
      simp only [AOp.sem,divA] at hs ⊢
      split at hs
      · obtain⟨h0,h1,h2,h3⟩:=hs;exact⟨h3.symm,h0,h1,h2,trivial⟩
      · cases hs
    all_goals (simp only [AOp.sem] at hs ⊢;split at hs <;> simp_all)
  all_goals first
    | (simp [AOp.cls] at hc;done)
    | (simp only [AOp.sem] at hs ⊢ <;> (repeat' split at hs) <;> simp_all)
def MObj:Option (List AV)→AObj
  | some cs=>.cells cs true
  | none=>.other (.map [] [] 0)
def AOp.made (ev:AOpd→AV):AOp→Option (Option (List AV) × (Nat→AV))
  | .alloc zs=>some (some zs,fun p=>.ptr p 0)
  | .box x=>(cellsOf (ev x)).map fun cs=>(some cs,fun p=>.ptr p 0)
  | .buildSlice zs ps ln sz=>(fillA ev zs ps).map fun cs=>(some cs,fun p=>.slice p 0 ln sz true)
  | .makeSl zs sz bytes ln cp=>match ev ln,ev cp with
    | .int _ n,.int _ c=>if 0≤n∧n≤c∧(bytes:Int) * c≤281474976710656∧c≤9223372036854775807 then some (some (List.replicate c.toNat zs).flatten,fun p=>.slice p 0 n.toNat sz (decide (n=c))) else none
    | _,_=>none
  | .makeMap=>some (none,fun p=>.map p)
  | _=>none
theorem sem_made {op:AOp} {ev:AOpd→AV} {h:Heap} {K:AV→Heap→Prop} (hc:op.cls=2) (hs:op.sem ev h K) :
    ∃ cs f,op.made ev=some (cs,f)∧K (f h.length) (h++[MObj cs]):=by
  cases op
  case' alloc=>skip
  all_goals try (simp [AOp.cls] at hc;done)
  all_goals simp only [AOp.sem,AOp.made] at hs ⊢
  · exact⟨_,_,rfl,hs⟩
  · split at hs
    · rename_i cs hcs;exact⟨some cs,_,by rw [hcs];rfl,hs⟩
    · cases hs
  · split at hs
    · rename_i cs hcs;exact⟨some cs,_,by rw [hcs];rfl,hs⟩
    · cases hs
  · split at hs
    · rename_i k1 n k2 c h1 h2
      obtain⟨q0,q1,q2,q3,hK⟩:=hs
      refine⟨some _,fun p=>.slice p 0 n.toNat _ (decide (n=c)),?_,hK⟩
      simp only [h1,h2]
      rw [if_pos ⟨q0,q1,q2,q3⟩]
    · cases hs
  · exact⟨none,_,rfl,hs⟩
end Go.Abs
/- The orders that a region may draw. -/
namespace Go.Abs
structure Topo (ops:Array Oper) (l:List Nat):Prop where
  nodup:l.Nodup
  lt:∀ i∈l,i<ops.size
  all:∀ i,i<ops.size→i∈l
  deps:∀ (pre post:List Nat) (i:Nat),l=pre++i :: post→∀ o,ops[i]?=some o→∀ e∈o.after,Region.binds .any e=true→e.on∈pre
theorem binds_any {m:Region.Mode} {e:Edge} (h:Region.binds .any e=true):Region.binds m e=true:=by
  cases hg:e.ground <;> simp only [Region.binds,hg] at h ⊢ <;> first|rfl|(exact absurd h (by decide))
theorem nodup_len:∀ (n:Nat) (l:List Nat),l.Nodup→(∀ x∈l,x<n)→l.length≤n
  | 0,[],_,_=>Nat.le_refl _
  | 0,x :: _,_,h=>absurd (h x (by simp)) (by omega)
  | n+1,l,hn,h=>by
    by_cases hm:n∈l
    · have h1:=nodup_len n (l.erase n) (hn.erase n) (fun x hx=>by
        have:=h x (List.mem_of_mem_erase hx)
        have hne:x≠n:=fun e=>by subst e;exact (hn.mem_erase_iff.1 hx).1 rfl
        omega)
      rw [List.length_erase_of_mem hm] at h1
      omega
    · have h1:=nodup_len n l hn (fun x hx=>by
        have:=h x hx
        have hne:x≠n:=fun e=>hm (e ▸ hx)
        omega)
      omega
theorem cover_len:∀ (n:Nat) (l:List Nat),(∀ i,i<n→i∈l)→n≤l.length
  | 0,_,_=>Nat.zero_le _
  | n+1,l,h=>by
    have h1:=cover_len n (l.erase n) (fun i hi=>(List.mem_erase_of_ne (by omega)).2 (h i (by omega)))
    have hm:=h n (by omega)
    rw [List.length_erase_of_mem hm] at h1
    have:=List.length_pos_of_mem hm
    omega
theorem ready_one {m:Region.Mode} {ops:Array Oper}:∀ (ord seen acc:List Nat),ordOK m ops ord seen=true→(∀ i∈seen,i∈acc)→(∃ i,i<ops.size∧i ∉ acc) →
    ∃ i,i<ops.size∧i ∉ acc∧∃ o,ops[i]?=some o∧∀ e∈o.after,Region.binds m e=true→e.on∈acc
  | [],seen,acc,h,hs,⟨i,hi,hn⟩=>by
    simp only [ordOK,List.all_eq_true,List.mem_range,List.contains_iff_mem] at h
    exact (hn (hs i (h i hi))).elim
  | j :: r,seen,acc,h,hs,hex=>by
    simp only [ordOK,Bool.and_eq_true] at h
    obtain⟨h1,h2⟩:=h
    by_cases hj:j∈acc
    · refine ready_one r (j :: seen) acc h2 (fun i hi=>?_) hex
      rcases List.mem_cons.1 hi with rfl|hi
      · exact hj
      · exact hs i hi
    · split at h1
      · rename_i o ho
        refine⟨j,?_,hj,o,ho,fun e he hb=>?_⟩
        · rcases Nat.lt_or_ge j ops.size with h|h
          · exact h
          · rw [Array.getElem?_eq_none h] at ho;cases ho
        · have:=List.all_eq_true.1 h1 e (by simpa using he)
          simp only [hb,Bool.not_true,Bool.false_or,List.contains_iff_mem] at this
          exact hs _ this
      · cases h1
theorem go_topo {m:Region.Mode} {ops:Array Oper} {ord:List Nat} (ho:ordOK m ops ord []=true):∀ (fuel t:Nat) (listed:Array Bool) (acc:List Nat),
    listed.size=ops.size→(∀ i,i<ops.size→(listed.getD i true=true↔i∈acc))→acc.Nodup→(∀ i∈acc,i<ops.size)→acc.length+fuel=ops.size →
    (∀ (pre post:List Nat) (i:Nat),acc.reverse=pre++i :: post→∀ o,ops[i]?=some o→∀ e∈o.after,Region.binds .any e=true→e.on∈pre) →
    Topo ops (Region.linearise.go m ops fuel t listed acc)
  | 0,t,listed,acc,h1,h2,h3,h4,h5,h6=>by
    simp only [Region.linearise.go]
    refine⟨List.pairwise_reverse.2 (h3.imp Ne.symm),fun i hi=>h4 i (List.mem_reverse.1 hi),fun i hi=>?_,h6⟩
    rw [List.mem_reverse]
    rcases Classical.em (i∈acc) with h|h
    · exact h
    · exfalso
      have hsub:(i :: acc).Nodup:=List.nodup_cons.2 ⟨h,h3⟩
      have hle:=nodup_len ops.size (i :: acc) hsub (fun x hx=>by
        rcases List.mem_cons.1 hx with rfl|hx
        · exact hi
        · exact h4 x hx)
      simp at hle;omega
  | fuel+1,t,listed,acc,h1,h2,h3,h4,h5,h6=>by
    simp only [Region.linearise.go]
    have hnot:∃ i,i<ops.size∧i ∉ acc:=by
      rcases Classical.em (∃ i,i<ops.size∧i ∉ acc) with h|h
      · exact h
      · exfalso
        have hle:=cover_len ops.size acc (fun x hx=>by
          rcases Classical.em (x∈acc) with hm|hm
          · exact hm
          · exact (h ⟨x,hx,hm⟩).elim)
        omega
    obtain⟨j,j1,j2,oj,j3,j4⟩:=ready_one ord [] acc ho (fun _ h=>by cases h) hnot
    have hmem:∀ i,i∈(List.range ops.size).filter (fun i=>!listed.getD i true && ((ops[i]?).map (·.after.all fun e=>!Region.binds m e || listed.getD e.on false)).getD false) →
        i<ops.size∧i ∉ acc∧∀ o,ops[i]?=some o→∀ e∈o.after,Region.binds m e=true→e.on∈acc:=by
      intro i hi
      simp only [List.mem_filter,List.mem_range,Bool.and_eq_true,Bool.not_eq_true'] at hi
      obtain⟨g1,g2,g3⟩:=hi
      refine⟨g1,(fun hm=>by rw [(h2 i g1).2 hm] at g2;cases g2),fun o ho' e he hb=>?_⟩
      rw [ho'] at g3
      simp only [Option.map_some,Option.getD_some,Array.all_eq_true_iff_forall_mem] at g3
      have:=g3 e he
      simp only [hb,Bool.not_true,Bool.false_or] at this
      by_cases hlt:e.on<ops.size
      · refine (h2 _ hlt).1 ?_
        have h8:e.on<listed.size:=by omega
        simp only [Array.getD,h8,dite_true] at this ⊢
        exact this
      · have h8:¬ e.on<listed.size:=by omega
        simp [Array.getD,h8] at this
    have hjr:j∈(List.range ops.size).filter (fun i=>!listed.getD i true && ((ops[i]?).map (·.after.all fun e=>!Region.binds m e || listed.getD e.on false)).getD false):=by
      simp only [List.mem_filter,List.mem_range,Bool.and_eq_true,Bool.not_eq_true']
      refine⟨j1,?_,?_⟩
      · cases hl:listed.getD j true with
        | false=>rfl
        | true=>exact (j2 ((h2 j j1).1 hl)).elim
      · rw [j3]
        simp only [Option.map_some,Option.getD_some,Array.all_eq_true_iff_forall_mem]
        intro e he
        cases hb:Region.binds m e with
        | false=>rfl
        | true =>
          have hin:=j4 e he hb
          have hlt:=h4 _ hin
          have:=(h2 _ hlt).2 hin
          have h8:e.on<listed.size:=by omega
          simp only [Array.getD,h8,dite_true] at this ⊢
          simpa using this
    split
    · rename_i i hi
      obtain⟨g1,g2,g3⟩:=hmem i (List.mem_of_getElem? hi)
      refine go_topo ho fuel _ _ _ (by simpa using h1) ?_ (List.nodup_cons.2 ⟨g2,h3⟩) ?_ (by simp;omega) ?_
      · intro k hk
        have h8:k<listed.size:=by omega
        have h9:=h2 k hk
        rw [Array.getD_eq_getD_getElem?] at h9 ⊢
        rw [Array.getElem?_setIfInBounds]
        simp only [List.mem_cons]
        by_cases hik:i=k
        · subst hik;simp [h8]
        · simp only [hik,if_false]
          rw [h9]
          constructor
          · exact fun h=>.inr h
          · rintro (h|h)
            · exact (hik h.symm).elim
            · exact h
      · intro k hk
        rcases List.mem_cons.1 hk with rfl|hk
        · exact g1
        · exact h4 k hk
      · intro pre post k he o ho' e hee hb
        rw [List.reverse_cons] at he
        rcases List.eq_nil_or_concat post with rfl|⟨post',x,rfl⟩
        · have:=List.append_inj' he rfl
          obtain⟨e1,e2⟩:=this
          simp only [List.cons.injEq,and_true] at e2
          subst e2
          rw [← e1,List.mem_reverse]
          exact g3 o ho' e hee (binds_any hb)
        · have he':acc.reverse++[i]=(pre++k :: post')++[x]:=by simpa using he
          have:=List.append_inj' he' rfl
          exact h6 pre post' k this.1 o ho' e hee hb
    · rename_i hnone
      exfalso
      have hlen:0<((List.range ops.size).filter (fun i=>!listed.getD i true && ((ops[i]?).map (·.after.all fun e=>!Region.binds m e || listed.getD e.on false)).getD false)).length :=
        List.length_pos_of_mem hjr
      rw [List.getElem?_eq_none_iff] at hnone
      have:=Nat.mod_lt t hlen
      omega
theorem linearise_topo {m:Region.Mode} {ops:Array Oper} {ord:List Nat} (ho:ordOK m ops ord []=true) (t:Nat):Topo ops (Region.linearise m ops t):=by
  refine go_topo ho _ _ _ _ (by simp) (fun i hi=>?_) List.nodup_nil (fun _ h=>by cases h) (by simp) ?_
  · simp [Array.getD,hi]
  · intro pre post i h
    simp at h
theorem schedule_topo {ops:Array Oper} (h:drawOrders ops=true) (mixed:Bool) (t:Nat):Topo ops (Region.schedule mixed ops t):=by
  unfold drawOrders at h
  simp only [Bool.and_eq_true,Bool.or_eq_true,Bool.not_eq_true'] at h
  unfold Region.schedule
  split
  · exact linearise_topo h.1 t
  · rename_i hn
    simp only [Bool.or_eq_true,Bool.not_eq_true',not_or] at hn
    have:=h.2.resolve_left (by simpa using hn.2)
    split
    · exact linearise_topo this.1 _
    · exact linearise_topo this.2 _
end Go.Abs
/- What is asked of a region that draws its order,and what it tells of each operation. -/
namespace Go.Abs
structure Rd where
  at_:Nat
  op:AOp
  t:List (Nat × AV)
  v:AV
def recheck (ps:List (List Nat)) (i:Nat) (h':Heap):List Rd→Prop
  | []=>True
  | r :: rs=>(r.at_ ∉ pr ps i→r.op.sem (AOpd.ev r.t) h' (fun v' _=>v'=r.v))∧recheck ps i h' rs
def repast (ps:List (List Nat)) (i:Nat) (op:AOp) (t:List (Nat × AV)) (v:AV):List (Nat × Heap)→Prop
  | []=>True
  | p :: past=>(p.1 ∉ pr ps i→op.sem (AOpd.ev t) p.2 (fun v' _=>v'=v))∧repast ps i op t v past
def AOp.eff (P:Program) (op:AOp) (s:St) (K:AV→Heap→Prop):Prop :=
  match op with
  | .callF f args=>∃ v h',ACalls P f (args.map (AOpd.ev s.t)) s.h (fun v2 h2=>v2=v∧h2=h')∧K v h'
  | .callV f args=>match f.ev s.t with
    | .fn (.func f) first caps=>∃ v h',ACalls P f (first++args.map (AOpd.ev s.t)++caps) s.h (fun v2 h2=>v2=v∧h2=h')∧K v h'
    | .yield id=>∃ v h',AYields P id (args.map (AOpd.ev s.t)) s.h (fun v2 h2=>v2=v∧h2=h')∧K v h'
    | _=>False
  | op=>op.sem (AOpd.ev s.t) s.h K
def DAO.wp (P:Program) (ps:List (List Nat)):List AO→Nat→List (Nat × Heap)→List Rd→(St→Prop)→St→Prop
  | [],_,_,_,K,s=>K s
  | o :: os,i,past,rds,K,s =>
    match o.guard with
    | none=>run o os i past rds K s
    | some (g,want)=>match lk s.t g with
      | .bool b=>if b=want then run o os i past rds K s else DAO.wp P ps os (i+1) past rds K (s.put o.dst (.tuple []) s.h)
      | .tuple []=>DAO.wp P ps os (i+1) past rds K (s.put o.dst (.tuple []) s.h)
      | _=>False
where
  run (o:AO) (os:List AO) (i:Nat) (past:List (Nat × Heap)) (rds:List Rd) (K:St→Prop) (s:St):Prop :=
    match o.op.cls with
    | 0=>o.op.sem (AOpd.ev s.t) s.h (fun v _=>DAO.wp P ps os (i+1) past rds K (s.put o.dst v s.h))
    | 1=>o.op.sem (AOpd.ev s.t) s.h (fun v _=>repast ps i o.op s.t v past∧DAO.wp P ps os (i+1) past (⟨i,o.op,s.t,v⟩ :: rds) K (s.put o.dst v s.h))
    | 2=>(o.op.slots.all fun k=>(lk s.t k).sc s.h.length)=true∧o.op.sem (AOpd.ev s.t) s.h (fun v h'=>recheck ps i h' rds∧DAO.wp P ps os (i+1) ((i,s.h) :: past) (rds.filter fun r=>!(pr ps i).contains r.at_) K (s.put o.dst v h'))
    | _=>(o.op.slots.all fun k=>(lk s.t k).sc s.h.length)=true∧o.op.eff P s (fun v h'=>s.h.length≤h'.length∧recheck ps i h' rds∧DAO.wp P ps os (i+1) ((i,s.h) :: past) (rds.filter fun r=>!(pr ps i).contains r.at_) K (s.put o.dst v h'))
structure Cert where
  v:Nat→AV
  hp:Nat→Heap
  sk:Nat→Bool
  T:Nat→List (Nat × AV)
def Cert.HR (c:Cert) (op:AOp) (k:Nat):Prop:=2≤op.cls∧c.sk k=false
def Cert.Runs (P:Program) (c:Cert) (o:AO) (j:Nat):Prop :=
  c.T (j+1)=(match o.dst with|some d=>(d,c.v j) :: c.T j|none=>c.T j) ∧
  ((c.sk j = true ∧ c.v j = .tuple [] ∧ c.hp (j + 1) = c.hp j ∧ ∃ g want, o.guard = some (g, want) ∧ (lk (c.T j) g = .tuple [] ∨ ∃ b, lk (c.T j) g = .bool b ∧ b ≠ want)) ∨
   (c.sk j = false ∧ (o.guard = none ∨ ∃ g want, o.guard = some (g, want) ∧ lk (c.T j) g = .bool want) ∧
    ((o.op.cls = 0 ∧ c.hp (j + 1) = c.hp j ∧ o.op.sem (AOpd.ev (c.T j)) (c.hp j) (fun v' h' => v' = c.v j ∧ h' = c.hp j)) ∨
     (o.op.cls=1∧c.hp (j+1)=c.hp j) ∨
     (o.op.cls=2∧o.op.sem (AOpd.ev (c.T j)) (c.hp j) (fun v' h'=>v'=c.v j∧h'=c.hp (j+1))∧(o.op.slots.all fun k=>(lk (c.T j) k).sc (c.hp j).length)=true) ∨
     (o.op.cls=3∧o.op.eff P ⟨c.T j,c.hp j⟩ (fun v' h'=>v'=c.v j∧h'=c.hp (j+1))∧(c.hp j).length≤(c.hp (j+1)).length∧(o.op.slots.all fun k=>(lk (c.T j) k).sc (c.hp j).length)=true))))
def Cert.Reads (ps:List (List Nat)) (c:Cert) (al:List AO) (i0 n:Nat) (o:AO) (j:Nat):Prop :=
  o.op.cls=1→c.sk j=false→∀ q,i0≤q→q≤n→(q=n∨q=j∨((∃ oq,al[q]?=some oq∧c.HR oq.op q)∧q ∉ pr ps j)) →
    (∀ (k:Nat) (ok:AO),i0≤k→k<q→al[k]?=some ok→c.HR ok.op k→j ∉ pr ps k)→o.op.sem (AOpd.ev (c.T j)) (c.hp q) (fun v' _=>v'=c.v j)
theorem cls_le (op:AOp):op.cls≤3:=by cases op <;> simp [AOp.cls]
theorem eff_ex {P:Program} {op:AOp} {s:St} {K:AV→Heap→Prop} (hc:op.cls=3) (h:op.eff P s K):∃ v h',K v h'∧op.eff P s (fun v' h''=>v'=v∧h''=h'):=by
  cases op
  case callF f args =>
    obtain⟨v,h',h1,h2⟩:=h
    exact⟨v,h',h2,v,h',h1,rfl,rfl⟩
  case callV f args =>
    simp only [AOp.eff] at h ⊢
    split at h
    · obtain⟨v,h',h1,h2⟩:=h
      exact⟨v,h',h2,v,h',h1,rfl,rfl⟩
    · obtain⟨v,h',h1,h2⟩:=h
      exact⟨v,h',h2,v,h',h1,rfl,rfl⟩
    · cases h
  all_goals first
    | (simp [AOp.cls] at hc;done)
    | (simp only [AOp.eff] at h ⊢;exact sem_ex h)
theorem recheck_mem {ps:List (List Nat)} {i:Nat} {h':Heap}:∀ {rs:List Rd},recheck ps i h' rs→∀ r∈rs,r.at_ ∉ pr ps i→r.op.sem (AOpd.ev r.t) h' (fun v' _=>v'=r.v)
  | [],_,_,hr=>by cases hr
  | r :: rs,h,x,hx=>by
    simp only [recheck] at h
    rcases List.mem_cons.1 hx with rfl|hx
    · exact h.1
    · exact recheck_mem h.2 x hx
theorem repast_mem {ps:List (List Nat)} {i:Nat} {op:AOp} {t:List (Nat × AV)} {v:AV}:∀ {past:List (Nat × Heap)},repast ps i op t v past→∀ p∈past,p.1 ∉ pr ps i→op.sem (AOpd.ev t) p.2 (fun v' _=>v'=v)
  | [],_,_,hr=>by cases hr
  | r :: rs,h,x,hx=>by
    simp only [repast] at h
    rcases List.mem_cons.1 hx with rfl|hx
    · exact h.1
    · exact repast_mem h.2 x hx
theorem sem_read_heap {op:AOp} {ev:AOpd→AV} {h h':Heap} {v:AV} (hc:op.cls=1) (hs:op.sem ev h (fun v' h''=>v'=v∧h''=h')):h'=h:=by
  cases op <;> first
    | (simp [AOp.cls] at hc;done)
    | (simp only [AOp.sem] at hs;(repeat' split at hs) <;> simp_all)
theorem sem_weak {op:AOp} {ev:AOpd→AV} {h:Heap} {K K':AV→Heap→Prop} (hK:∀ v h',K v h'→K' v h') (hs:op.sem ev h K):op.sem ev h K':=by
  obtain⟨v,h',h1,h2⟩:=sem_ex hs
  have h3:=hK v h' h1
  revert h2
  generalize hA:(fun v' h''=>v'=v∧h''=h':AV→Heap→Prop)=A
  intro h2
  have hA':∀ v' h'',A v' h''→K' v' h'':=by
    intro v' h'' ha;rw [← hA] at ha;obtain⟨rfl,rfl⟩:=ha;exact h3
  clear hA h3 h1 hs hK
  cases op
  case min2 x y =>
    simp only [AOp.sem] at h2 ⊢
    split at h2
    · exact hA' _ _ h2
    · cases h2
  case max2 x y =>
    simp only [AOp.sem] at h2 ⊢
    split at h2
    · exact hA' _ _ h2
    · cases h2
  case index1 x i n =>
    simp only [AOp.sem] at h2 ⊢
    split at h2
    · obtain⟨g0,g1,v,g2,g3⟩:=h2;exact⟨g0,g1,v,g2,hA' _ _ g3⟩
    · cases h2
  case bin op x y =>
    cases op
    case quo =>
      simp only [AOp.sem,divA] at h2 ⊢
      split at h2
      · obtain⟨g0,g1,g2⟩:=h2;exact⟨g0,g1,hA' _ _ g2⟩
      · cases h2
    case rem =>
      simp only [AOp.sem,divA] at h2 ⊢
      split at h2
      · obtain⟨g0,g1,g2⟩:=h2;exact⟨g0,g1,hA' _ _ g2⟩
      · cases h2
    all_goals (simp only [AOp.sem] at h2 ⊢;split at h2 <;> first|exact hA' _ _ h2|cases h2)
  all_goals (simp only [AOp.sem] at h2 ⊢ <;> (repeat' split at h2) <;> first
    | exact hA' _ _ h2
    | (exact h2.elim)
    | (obtain⟨g1,g2⟩:=h2;first|exact⟨g1,hA' _ _ g2⟩|(obtain⟨g2,g3⟩:=g2;first|exact⟨g1,g2,hA' _ _ g3⟩|(obtain⟨g3,g4⟩:=g3;first|exact⟨g1,g2,g3,hA' _ _ g4⟩|(obtain⟨g4,g5⟩:=g4;first|exact⟨g1,g2,g3,g4,hA' _ _ g5⟩|(obtain⟨g5,g6⟩:=g5;exact⟨g1,g2,g3,g4,g5,hA' _ _ g6⟩)))))
    | (simp_all))
end Go.Abs
