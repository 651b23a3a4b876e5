/- The abstract machine, run: what it leaves is what the laws say. -/
import Derived.Test.YtdocpfbfchaekaaGreatA23
namespace Go.Abs
open Go.RowKit
section
variable {P:Program} {call:FuncId→List AV→Heap→Option (AV × Heap)} {yl:Nat→List AV→Heap→Option (AV × Heap)}
theorem runOps_wp (hc:CallsOK P call) (hy:YieldsOK P yl):∀ (l:List AO) (s s':St),runOps call yl l s=some s'→∀ {K:St→Prop},K s'→AOs.wp P l K s
  | [],s,s',h,K,hK=>by
    simp only [runOps,Option.some.injEq] at h;subst h;exact hK
  | o :: os,s,s',h,K,hK=>by
    simp only [runOps] at h
    simp only [AOs.wp,AO.wp]
    unfold wants at h
    cases hg:o.guard with
    | none =>
      simp only [hg] at h ⊢
      split at h
      · rename_i v h' hr;exact runOne_run hc hy hr (runOps_wp hc hy os _ _ h hK)
      · cases h
    | some g =>
      obtain⟨g,want⟩:=g
      simp only [hg] at h ⊢
      cases hl:lk s.t g with
      | bool b =>
        simp only [hl] at h ⊢
        by_cases hb:b=want
        · subst hb
          simp only [beq_self_eq_true,if_true] at h ⊢
          split at h
          · rename_i v h' hr;exact runOne_run hc hy hr (runOps_wp hc hy os _ _ h hK)
          · cases h
        · have:(b == want)=false:=by simpa using hb
          simp only [this,hb,if_false] at h ⊢
          exact runOps_wp hc hy os _ _ h hK
      | tuple vs =>
        cases vs with
        | nil=>simp only [hl] at h ⊢;exact runOps_wp hc hy os _ _ h hK
        | cons _ _=>simp [hl] at h
      | _=>simp [hl] at h
theorem reads_sem {o:AOp} {t:List (Nat × AV)} {h:Heap} {v:AV} (hr:reads o t h v=true):o.sem (AOpd.ev t) h (fun v' _=>v'=v):=by
  unfold reads at hr
  split at hr
  · rename_i v' h' hf;exact fx_sem (K:=fun v' _=>v'=v) hf (beq_eq _ _ hr)
  · cases hr
theorem pastOK_repast {ps:List (List Nat)} {i:Nat} {o:AOp} {t:List (Nat × AV)} {v:AV}:∀ {past:List (Nat × Heap)},pastOK ps i o t v past=true→repast ps i o t v past
  | [],_=>trivial
  | p :: past,h=>by
    simp only [pastOK,List.all_cons,Bool.and_eq_true,Bool.or_eq_true] at h
    refine⟨fun hn=>?_,pastOK_repast h.2⟩
    rcases h.1 with h1|h1
    · exact absurd (by simpa using h1) hn
    · exact reads_sem h1
theorem readsOK_recheck {ps:List (List Nat)} {i:Nat} {h':Heap}:∀ {rds:List Rd},readsOK ps i h' rds=true→recheck ps i h' rds
  | [],_=>trivial
  | r :: rs,h=>by
    simp only [readsOK,List.all_cons,Bool.and_eq_true,Bool.or_eq_true] at h
    refine⟨fun hn=>?_,readsOK_recheck h.2⟩
    rcases h.1 with h1|h1
    · exact absurd (by simpa using h1) hn
    · exact reads_sem h1
theorem runDraw_wp (hc:CallsOK P call) (hy:YieldsOK P yl) (ps:List (List Nat)):∀ (l:List AO) (i:Nat) (past:List (Nat × Heap)) (rds:List Rd) (s s':St),runDraw call yl ps l i past rds s=some s' →
    ∀ {K:St→Prop},K s'→DAO.wp P ps l i past rds K s
  | [],i,past,rds,s,s',h,K,hK=>by
    simp only [runDraw,Option.some.injEq] at h;subst h;simp only [DAO.wp];exact hK
  | o :: os,i,past,rds,s,s',h,K,hK=>by
    have run:(match o.op.cls with
      | 0=>match o.op.fx (AOpd.ev s.t) s.h with
        | some (v,_)=>runDraw call yl ps os (i+1) past rds (s.put o.dst v s.h)
        | none=>none
      | 1=>match o.op.fx (AOpd.ev s.t) s.h with
        | some (v,_)=>if pastOK ps i o.op s.t v past=true then runDraw call yl ps os (i+1) past (⟨i,o.op,s.t,v⟩ :: rds) (s.put o.dst v s.h) else none
        | none=>none
      | 2=>match o.op.fx (AOpd.ev s.t) s.h with
        | some (v,h')=>if scopedB o.op s.t s.h.length=true∧readsOK ps i h' rds=true then
            runDraw call yl ps os (i+1) ((i,s.h) :: past) (rds.filter fun r=>!(pr ps i).contains r.at_) (s.put o.dst v h') else none
        | none=>none
      | _=>match runOne call yl o.op s with
        | some (v,h')=>if scopedB o.op s.t s.h.length=true∧s.h.length≤h'.length∧readsOK ps i h' rds=true then
            runDraw call yl ps os (i+1) ((i,s.h) :: past) (rds.filter fun r=>!(pr ps i).contains r.at_) (s.put o.dst v h') else none
        | none=>none)=some s'→DAO.wp.run P ps o os i past rds K s:=by
      intro h
      unfold DAO.wp.run
      split at h
      · rename_i hk;simp only [hk]
        split at h
        · rename_i v h' hr;exact fx_sem (K:=fun v _=>DAO.wp P ps os (i+1) past rds K (s.put o.dst v s.h)) hr (runDraw_wp hc hy ps os _ _ _ _ _ h hK)
        · cases h
      · rename_i hk;simp only [hk]
        split at h
        · rename_i v h' hr
          split at h
          · rename_i hp;exact fx_sem (K:=fun v _=>repast ps i o.op s.t v past∧DAO.wp P ps os (i+1) past (⟨i,o.op,s.t,v⟩ :: rds) K (s.put o.dst v s.h)) hr ⟨pastOK_repast hp,runDraw_wp hc hy ps os _ _ _ _ _ h hK⟩
          · cases h
        · cases h
      · rename_i hk;simp only [hk]
        split at h
        · rename_i v h' hr
          split at h
          · rename_i hp
            exact⟨hp.1,fx_sem (K:=fun v h'=>recheck ps i h' rds∧DAO.wp P ps os (i+1) ((i,s.h) :: past) (rds.filter fun r=>!(pr ps i).contains r.at_) K (s.put o.dst v h')) hr ⟨readsOK_recheck hp.2,runDraw_wp hc hy ps os _ _ _ _ _ h hK⟩⟩
          · cases h
        · cases h
      · rename_i h0 h1 h2
        split
        · rename_i hk;exact (h0 hk).elim
        · rename_i hk;exact (h1 hk).elim
        · rename_i hk;exact (h2 hk).elim
        · split at h
          · rename_i v h' hr
            split at h
            · rename_i hp
              exact⟨hp.1,runOne_eff hc hy hr ⟨hp.2.1,readsOK_recheck hp.2.2,runDraw_wp hc hy ps os _ _ _ _ _ h hK⟩⟩
            · cases h
          · cases h
    simp only [runDraw] at h
    simp only [DAO.wp]
    unfold wants at h
    cases hg:o.guard with
    | none =>
      simp only [hg] at h ⊢
      exact run h
    | some g =>
      obtain⟨g,want⟩:=g
      simp only [hg] at h ⊢
      cases hl:lk s.t g with
      | bool b =>
        simp only [hl] at h ⊢
        by_cases hb:b=want
        · subst hb
          simp only [beq_self_eq_true,if_true] at h ⊢
          exact run h
        · have:(b == want)=false:=by simpa using hb
          simp only [this,hb,if_false] at h ⊢
          exact runDraw_wp hc hy ps os _ _ _ _ _ h hK
      | tuple vs =>
        cases vs with
        | nil=>simp only [hl] at h ⊢;exact runDraw_wp hc hy ps os _ _ _ _ _ h hK
        | cons _ _=>simp [hl] at h
      | _=>simp [hl] at h
theorem runLoop_wp {H:Heap} {a:AC} {body:St→Option (Exit × St)} (ih:∀ (s:St) (e:Exit) (s':St),body s=some (e,s')→∀ {Q:Exit→St→Prop},Q e s'→a.wp P H Q s) (n:Nat) (s:St) (e:Exit) (s':St)
    (h:runLoop body n s=some (e,s')) {Q:Exit→St→Prop} (hQ:Q e s'):(AC.loop a).wp P H Q s:=by
  refine⟨{ p:Nat × St // runLoop body p.1 p.2=some (e,s') },fun p=>p.1.2,fun p=>p.1.1,⟨(n,s),h⟩,.inl rfl,?_⟩
  rintro⟨⟨k,s1⟩,h1⟩
  cases k with
  | zero=>simp [runLoop] at h1
  | succ k =>
    simp only [runLoop] at h1
    split at h1
    · rename_i s2 hb
      exact ih _ _ _ hb ⟨⟨(k,s2),h1⟩,by simp,.inl rfl⟩
    · rename_i hno
      refine ih _ _ _ h1 ?_
      cases e with
      | normal=>exact (hno _ h1).elim
      | _=>exact hQ
theorem runC_wp (hc:CallsOK P call) (hy:YieldsOK P yl) (H:Heap) (n:Nat):∀ (c:AC) (s:St) (e:Exit) (s':St),runC call yl n c s=some (e,s')→∀ {Q:Exit→St→Prop},Q e s'→c.wp P H Q s:=by
  intro c
  induction c with
  | skip =>
    intro s e s' h Q hQ
    simp only [runC,Option.some.injEq,Prod.mk.injEq] at h
    obtain⟨rfl,rfl⟩:=h;exact hQ
  | ops l live =>
    intro s e s' h Q hQ
    simp only [runC] at h
    cases hr:runOps call yl l s with
    | none=>simp [hr] at h
    | some s1 =>
      simp only [hr,Option.map_some,Option.some.injEq,Prod.mk.injEq] at h
      obtain⟨rfl,rfl⟩:=h
      exact runOps_wp hc hy l s s1 hr (K:=fun s'=>Q .normal (s'.prune live)) hQ
  | draw l ps live =>
    intro s e s' h Q hQ
    simp only [runC] at h
    cases hr:runDraw call yl ps l 0 [] [] s with
    | none=>simp [hr] at h
    | some s1 =>
      simp only [hr,Option.map_some,Option.some.injEq,Prod.mk.injEq] at h
      obtain⟨rfl,rfl⟩:=h
      exact runDraw_wp hc hy ps l 0 [] [] s s1 hr (K:=fun s'=>Q .normal (s'.prune live)) hQ
  | seq a b iha ihb =>
    intro s e s' h Q hQ
    simp only [runC] at h
    simp only [AC.wp]
    split at h
    · rename_i s1 ha
      exact iha _ _ _ ha (ihb _ _ _ h hQ)
    · rename_i hno
      refine iha _ _ _ h ?_
      cases e with
      | normal=>exact (hno _ h).elim
      | _=>exact hQ
  | cond c a b iha ihb =>
    intro s e s' h Q hQ
    simp only [runC] at h
    simp only [AC.wp]
    split at h
    · rename_i hb;rw [hb];exact⟨fun _=>iha _ _ _ h hQ,fun h=>by cases h⟩
    · rename_i hb;rw [hb];exact⟨fun h=>by (cases h),fun _=>ihb _ _ _ h hQ⟩
    · cases h
  | block id a ih =>
    intro s e s' h Q hQ
    simp only [runC] at h
    simp only [AC.wp]
    split at h
    · rename_i id' s1 ha
      split at h
      · rename_i hid
        simp only [Option.some.injEq,Prod.mk.injEq] at h
        obtain⟨rfl,rfl⟩:=h
        exact ih _ _ _ ha (by simp only [ABlock,hid,if_true];exact hQ)
      · rename_i hid
        simp only [Option.some.injEq,Prod.mk.injEq] at h
        obtain⟨rfl,rfl⟩:=h
        exact ih _ _ _ ha (by simp only [ABlock,hid,if_false];exact hQ)
    · rename_i hno
      refine ih _ _ _ h ?_
      cases e with
      | exit id'=>exact (hno _ _ h).elim
      | _=>exact hQ
  | loop a ih =>
    intro s e s' h Q hQ
    exact runLoop_wp (fun s e s' h Q hQ=>ih s e s' h hQ) n s e s' h hQ
  | scope a ih =>
    intro s e s' h Q hQ
    simp only [runC] at h
    simp only [AC.wp]
    split at h
    · cases h
    · rename_i hno
      refine ih _ _ _ h ?_
      cases e with
      | goto l=>exact (hno _ _ h).elim
      | _=>exact hQ
  | exit id =>
    intro s e s' h Q hQ
    simp only [runC,Option.some.injEq,Prod.mk.injEq] at h
    obtain⟨rfl,rfl⟩:=h;exact hQ
  | ret =>
    intro s e s' h Q hQ
    simp only [runC,Option.some.injEq,Prod.mk.injEq] at h
    obtain⟨rfl,rfl⟩:=h;exact hQ
  | rangeFunc f ps a b iha ihb =>
    intro s e s' h Q hQ
    simp only [runC] at h
    simp only [AC.wp]
    split at h
    · rename_i g first caps hf
      rw [hf]
      split at h
      · rename_i hsc
        split at h
        · rename_i v h' hcall
          refine⟨hsc,_,hc _ _ _ _ _ hcall,?_⟩
          rintro _ _ ⟨rfl,rfl⟩
          unfold RangeEnd
          split at h
          · rename_i hob
            simp only [Option.some.injEq,Prod.mk.injEq] at h
            obtain⟨rfl,rfl⟩:=h
            rw [hob];exact hQ
          · rename_i hob
            simp only [Option.some.injEq,Prod.mk.injEq] at h
            obtain⟨rfl,rfl⟩:=h
            rw [hob];exact hQ
          · cases h
        · cases h
      · cases h
    · cases h
  | bad=>intro s e s' h;simp [runC] at h
theorem runRound_ok (hc:CallsOK P call) (hy:YieldsOK P yl) (n:Nat):YieldsOK P (runRound call yl n):=by
  intro id args h v h' hr
  simp only [runRound] at hr
  split at hr
  · rename_i t ps a b hid
    split at hr
    · rename_i hl
      split at hr
      · rename_i s1 ha
        split at hr
        · rename_i t1 ps1 a1 b1 hid1
          split at hr
          · rename_i e s2 hb
            split at hr
            · rename_i t2 ps2 a2 b2 hid2
              refine ayields hid hl fun _=>runC_wp hc hy h n a _ _ _ ha ?_
              refine⟨rfl,?_⟩
              rw [hid1]
              refine runC_wp hc hy h n b _ _ _ hb ?_
              unfold RoundEnd
              rw [hid2]
              cases e <;> simp only [Option.some.injEq,Prod.mk.injEq,reduceCtorEq] at hr ⊢
              all_goals (obtain⟨rfl,rfl⟩:=hr;exact⟨_,.inl rfl,rfl,rfl⟩)
            · cases hr
          · cases hr
        · cases hr
      · cases hr
    · cases hr
  · cases hr
theorem le_take {H h:Heap} {v:AV} (hl:H.length≤h.length) (hv:v.sc H.length=true) (hs:((h.take H.length).all fun o=>o.sc H.length)=true):Le H ⟨[(0,v)],h⟩ ⟨[(0,v)],h.take H.length⟩:=by
  have len:(h.take H.length).length=H.length:=by simp;omega
  refine⟨by rw [len];exact Nat.le_refl _,id,fun _ _=>rfl,fun i o hi=>?_,fun i j _ _ _ _ _ _ hne=>hne,fun k=>?_⟩
  · have hsc:o.sc H.length=true:=List.all_eq_true.1 hs o (List.mem_of_getElem? hi)
    refine .inr (.inr ⟨by rw [len];exact hsc,?_⟩)
    rw [aren_id (ρ:=id) (m:=H.length) (fun _ _=>rfl) o hsc]
    rw [List.getElem?_take] at hi
    split at hi
    · exact hi
    · cases hi
  · show lk [(0,v)] k=.junk∨((lk [(0,v)] k).sc (h.take H.length).length=true∧lk [(0,v)] k=(lk [(0,v)] k).ren id)
    simp only [lk]
    split
    · exact .inr ⟨by rw [len];exact hv,(ren_id (ρ:=id) (m:=H.length) (fun _ _=>rfl) v hv).symm⟩
    · exact .inl rfl
def kEnt (v:AV):Ent:=⟨.seq (.ops [⟨some 0,.mov (.c v),none⟩] none) .ret,[.t 0],0⟩
def EntOK (P:Program) (f:FuncId) (e:Ent):Prop:=FnOK P f e.ac e.rs e.n∨∃ v,e=kEnt v∧∀ H,ACalls P f [] H (fun v' h'=>v'=v∧h'=H)
def EntsOK (P:Program) (T:FuncId→Option Ent):Prop:=∀ f e,T f=some e→EntOK P f e
theorem kEnt_run {T:FuncId→Option Ent} {n:Nat} {f:FuncId} {v:AV} {args:List AV} {h h':Heap} {v':AV} (hT:T f=some (kEnt v)) (hr:runF T call yl n f args h=some (v',h')):args=[]∧v'=v∧h'=h:=by
  simp only [runF,hT,kEnt] at hr
  split at hr
  · rename_i hl
    have:args=[]:=List.eq_nil_of_length_eq_zero hl
    subst this
    simp [runC,runOps,wants,runOne,AOp.fx,AOpd.ev,St.put,St.prune,argsT,resV,getAll,AR.get,lk] at hr
    exact⟨rfl,hr.1.symm,hr.2.symm⟩
  · cases hr
theorem runF_ok {T:FuncId→Option Ent} (hT:EntsOK P T) (hc:CallsOK P call) (hy:YieldsOK P yl) (n:Nat):CallsOK P (runF T call yl n):=by
  intro f args h v h' hr
  by_cases hk:∃ v,T f=some (kEnt v)∧∀ H,ACalls P f [] H (fun v' h'=>v'=v∧h'=H)
  · obtain⟨v0,hk1,hk2⟩:=hk
    obtain⟨rfl,rfl,rfl⟩:=kEnt_run hk1 hr
    exact hk2 _
  simp only [runF] at hr
  split at hr
  · rename_i e hTe
    have hFn:FnOK P f e.ac e.rs e.n:=by
      rcases hT f e hTe with h|⟨v,rfl,h⟩
      · exact h
      · exact (hk ⟨v,hTe,h⟩).elim
    split at hr
    · rename_i hl
      have fin:∀ (s:St) (ex:Exit),(ex=.normal∨ex=.ret)→runC call yl n e.ac ⟨argsT 0 args,h⟩=some (ex,s)→(match resV s e.rs with|some v=>some (v,s.h)|none=>none)=some (v,h')→ACalls P f args h (fun v' h''=>v'=v∧h''=h'):=by
        intro s ex hex hrun hv
        refine hFn.calls hl fun _=>runC_wp hc hy h n e.ac _ _ _ hrun ?_
        split at hv
        · rename_i v0 hv0
          refine⟨hex,v0,hv0,v,h',?_,rfl,rfl⟩
          simp only [Option.some.injEq,Prod.mk.injEq] at hv
          obtain⟨rfl,rfl⟩:=hv
          exact .inl ⟨rfl,rfl⟩
        · cases hv
      split at hr
      · rename_i s hrun;exact fin s .normal (.inl rfl) hrun hr
      · rename_i s hrun;exact fin s .ret (.inr rfl) hrun hr
      · cases hr
    · cases hr
  · cases hr
theorem run_ok {T:FuncId→Option Ent} (hT:EntsOK P T):∀ (n:Nat),CallsOK P (run T n).1∧YieldsOK P (run T n).2
  | 0=>⟨fun f args h v h' hr=>by simp [run] at hr,fun id args h v h' hr=>by simp [run] at hr⟩
  | n+1=>⟨runF_ok hT (run_ok hT n).1 (run_ok hT n).2 n,runRound_ok (run_ok hT n).1 (run_ok hT n).2 n⟩
theorem ACalls.frame {f:FuncId} {args:List AV} {v:AV} {h':Heap} (k:ACalls P f args [] (fun v' h''=>v'=v∧h''=h')) (ha:scL 0 args=true) (hv:v.sc 0=true) (H:Heap):ACalls P f args H (fun v' h''=>v'=v∧h''=H):=by
  refine⟨k.1,fun B σ w cargs hk hrel=>?_⟩
  have hk0:HeapOK P B [] [] w:=⟨rfl,hk.low,fun i o l hi=>by simp at hi,fun i j oi oj li lj hi=>by simp at hi⟩
  have hr0:RelL [] args cargs.toList:=by
    have:=relL_ren (σ:=σ) (ρ:=id) (m:=0) args cargs.toList ha (by rw [renL_id (ρ:=id) (m:=0) (fun _ _=>rfl) args ha];exact hrel)
    simpa [sgOf] using this
  refine (k.2 B [] w cargs hk0 hr0).mono ?_
  rintro e w' ⟨c,σ',v',h'',rfl,_,e3,e4,e5,rfl,rfl⟩
  have hfr:∀ b,b<w.heap.size→w'.heap[b]?=w.heap[b]?:=fun b hb=>e5.frame b hb (fun i o l hi=>by simp at hi)
  refine⟨c,σ,_,H,rfl,⟨[],by simp⟩,hk.world e5.size hfr,?_,?_,rfl,rfl⟩
  · have h1:=rel_ren (σ:=σ') (ρ:=id) (m:=0) v' c hv (by rw [ren_id (ρ:=id) (m:=0) (fun _ _=>rfl) v' hv];exact e4)
    have h2:Rel [] v' c:=by simpa [sgOf] using h1
    exact Rel.mono ⟨by simp,fun i l hi=>by simp at hi⟩ _ _ h2
  · exact⟨e5.os,e5.tape,e5.output,e5.size,fun b hb _=>hfr b hb,fun i o l h1 h2 h3=>.inr ⟨i,o,l,h1,h2,h3,rfl⟩,fun i o l h1 h2 h3=>.inr ⟨i,o,l,h1,h2,h3,rfl⟩,e5.ctl⟩
end
end Go.Abs
namespace Go.Abs
def look:List (Nat × Ent)→FuncId→Option Ent
  | [],_=>none
  | (k,e) :: r,f=>if k=f then some e else look r f
def AllOK (P:Program):List (Nat × Ent)→Prop
  | []=>True
  | (k,e) :: r=>FnOK P k e.ac e.rs e.n∧AllOK P r
end Go.Abs
