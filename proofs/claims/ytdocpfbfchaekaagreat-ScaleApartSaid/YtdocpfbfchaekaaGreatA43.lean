/- Small laws for reckoning. -/
import Derived.Test.YtdocpfbfchaekaaGreatA42
namespace Go.Abs
theorem wrap64 {x:Int} (h1:-9223372036854775808≤x) (h2:x≤9223372036854775807):IntKind.i64.wrap x=x:=by
  unfold IntKind.wrap
  simp [IntKind.bits,IntKind.signed]
  split <;> omega
theorem rd_new (H G:Heap) (k off n:Nat):rd (H++G) (H.length+k) off n=rd G k off n:=by
  simp [rd,List.getElem?_append_right]
theorem rd_new0 (H G:Heap) (off n:Nat):rd (H++G) H.length off n=rd G 0 off n:=by
  simp [rd,List.getElem?_append_right]
theorem rd_old {H:Heap} (G:Heap) {id:Nat} (h:id<H.length) (off n:Nat):rd (H++G) id off n=rd H id off n:=by
  simp [rd,List.getElem?_append_left h]
theorem wr_new (H G:Heap) (k off:Nat) (vs:List AV):wr (H++G) (H.length+k) off vs=(wr G k off vs).map (H++·):=by
  simp only [wr,List.getElem?_append_right (Nat.le_add_right _ _),Nat.add_sub_cancel_left]
  split
  · split
    · simp [List.set_append_right, *]
    · simp [*]
  · simp [*]
theorem wr_new0 (H G:Heap) (off:Nat) (vs:List AV):wr (H++G) H.length off vs=(wr G 0 off vs).map (H++·):=wr_new H G 0 off vs
theorem rd_zero (vs:List AV) (b:Bool) (G:Heap) (off n:Nat):rd (.cells vs b :: G) 0 off n=if off+n≤vs.length then some ((vs.drop off).take n) else none:=rfl
theorem rd_succ (o:AObj) (G:Heap) (k off n:Nat):rd (o :: G) (k+1) off n=rd G k off n:=by simp [rd]
theorem wr_zero (vs:List AV) (G:Heap) (off:Nat) (xs:List AV):wr (.cells vs true :: G) 0 off xs=if off+xs.length≤vs.length then some (.cells (splice vs off xs) true :: G) else none:=rfl
theorem wr_succ (o:AObj) (G:Heap) (k off:Nat) (xs:List AV):wr (o :: G) (k+1) off xs=(wr G k off xs).map (o :: ·):=by
  simp only [wr,List.getElem?_cons_succ]
  split
  · split
    · simp [*]
    · simp [*]
  · simp [*]
def EDraw (P:Program) (ps:List (List Nat)) (l:List AO) (i:Nat) (past:List (Nat × Heap)) (rds:List Rd) (K:St→Prop) (t:List (Nat × AV)) (h:Heap):Prop :=
  (∀ r∈rds,r.op.cls=1∧r.op.sem (AOpd.ev r.t) h (fun v' _=>v'=r.v))→DAO.wp P ps l i past rds K ⟨t,h⟩
theorem rd_keeps {op:AOp} {ev:AOpd→AV} {h:Heap} (g:Heap) {v:AV} (hc:op.cls=1) (hs:op.sem ev h (fun v' _=>v'=v)):op.sem ev (h++g) (fun v' _=>v'=v) :=
  sem_weak (fun _ _ h=>h.1) (read_app hc hs)
theorem fx_new {op:AOp} {ev:AOpd→AV} {h h':Heap} {v:AV} (hc:op.cls=2) (hf:op.fx ev h=some (v,h')):∃ g,h'=h++g:=by
  obtain⟨cs,f,_,_,h2⟩:=sem_made hc (fx_sem (K:=fun v' h''=>v'=v∧h''=h') hf ⟨rfl,rfl⟩)
  exact⟨_,h2.symm⟩
theorem recheck_of {ps:List (List Nat)} {i:Nat} {h':Heap}:∀ {rds:List Rd},(∀ r∈rds,r.op.sem (AOpd.ev r.t) h' (fun v' _=>v'=r.v))→recheck ps i h' rds
  | [],_=>trivial
  | r :: rs,h=>⟨fun _=>h r (by simp),recheck_of fun r hr=>h r (by simp [hr])⟩
theorem recheck_none {ps:List (List Nat)} {i:Nat} {h':Heap}:∀ {rds:List Rd},(rds.all fun r=>(pr ps i).contains r.at_)=true→recheck ps i h' rds
  | [],_=>trivial
  | r :: rs,h=>by
    simp only [List.all_cons,Bool.and_eq_true] at h
    exact⟨fun hn=>absurd (by simpa using h.1) hn,recheck_none h.2⟩
theorem repast_none {ps:List (List Nat)} {i:Nat} {op:AOp} {t:List (Nat × AV)} {v:AV}:∀ {past:List (Nat × Heap)},(past.all fun p=>(pr ps i).contains p.1)=true→repast ps i op t v past
  | [],_=>trivial
  | p :: past,h=>by
    simp only [List.all_cons,Bool.and_eq_true] at h
    exact⟨fun hn=>absurd (by simpa using h.1) hn,repast_none h.2⟩
theorem den_new {op:AOp} {ev:AOpd→AV} {h h':Heap} {c:Prop} {v:AV} (hc:op.cls=2) (hd:op.den ev h=.ok c v h'):∃ g,h'=h++g:=by
  have hc':=hc
  cases op <;> simp only [AOp.cls,Nat.reduceEqDiff] at hc <;> simp only [AOp.den] at hd <;> (repeat' split at hd) <;> first
    | (cases hd;done)
    | (rename_i heq;simp only [Den.ok.injEq] at hd;obtain⟨_,rfl,rfl⟩:=hd;exact fx_new hc' heq)
    | (simp only [Den.ok.injEq] at hd;exact⟨_,hd.2.2.symm⟩)
section
variable {P:Program} {ps:List (List Nat)} {H h h':Heap} {Q:Exit→St→Prop} {K:St→Prop} {t t':List (Nat × AV)} {d i:Nat} {l:List AO} {op:AOp} {v:AV} {past:List (Nat × Heap)} {rds:List Rd} {c:Prop} {r:Den}
theorem d_start {ks:List Nat} (hn:EDraw P ps l 0 [] [] (ENext Q ks) t h):ECode P H (.draw l ps (some ks)) Q t h:=hn (by simp)
theorem d_end {ks:List Nat} (ht:Red (ks.map (fun k=>(k,lk t k))) t') (hn:EQ Q .normal t' h):EDraw P ps [] i past rds (ENext Q ks) t h:=by
  have ht':ks.map (fun k=>(k,lk t k))=t':=ht
  subst ht'
  intro _
  simp only [DAO.wp]
  exact hn
theorem d_pure (hk:op.cls=0) (hr:Red (op.den (AOpd.ev t) h) r) (he:Red r (.ok c v h')) (hp:c) (hn:EDraw P ps l (i+1) past rds K ((d,v) :: t) h):EDraw P ps (⟨some d,op,none⟩ :: l) i past rds K t h:=by
  intro hi
  have hd:op.den (AOpd.ev t) h=.ok c v h':=hr.trans he
  simp only [DAO.wp,DAO.wp.run,hk]
  refine sem_den _ _ _ _ ?_
  rw [hd];exact⟨hp,hn hi⟩
theorem d_read_ (hk:op.cls=1) (hr:Red (op.den (AOpd.ev t) h) r) (he:Red r (.ok c v h')) (hp:c) (hpast:repast ps i op t v past)
    (hn:EDraw P ps l (i+1) past (⟨i,op,t,v⟩ :: rds) K ((d,v) :: t) h):EDraw P ps (⟨some d,op,none⟩ :: l) i past rds K t h:=by
  intro hi
  have hd:op.den (AOpd.ev t) h=.ok c v h':=hr.trans he
  simp only [DAO.wp,DAO.wp.run,hk]
  refine sem_den _ _ _ _ ?_
  rw [hd]
  refine⟨hp,hpast,hn ?_⟩
  intro r' hr'
  rcases List.mem_cons.1 hr' with rfl|hr'
  · exact⟨hk,sem_den _ _ _ _ (by simp only;rw [hd];exact⟨hp,rfl⟩)⟩
  · exact hi r' hr'
theorem d_read (hk:op.cls=1) (hpast:(past.all fun p=>(pr ps i).contains p.1)=true) (hr:Red (op.den (AOpd.ev t) h) r) (he:Red r (.ok c v h')) (hp:c)
    (hn:EDraw P ps l (i+1) past (⟨i,op,t,v⟩ :: rds) K ((d,v) :: t) h):EDraw P ps (⟨some d,op,none⟩ :: l) i past rds K t h:=d_read_ hk hr he hp (repast_none hpast) hn
theorem d_new (hk:op.cls=2) (hr:Red (op.den (AOpd.ev t) h) r) (he:Red r (.ok c v h')) (hp:c) (hsc:(op.slots.all fun k=>(lk t k).sc h.length)=true)
    (hn:EDraw P ps l (i+1) ((i,h) :: past) (rds.filter fun r=>!(pr ps i).contains r.at_) K ((d,v) :: t) h'):EDraw P ps (⟨some d,op,none⟩ :: l) i past rds K t h:=by
  intro hi
  have hd:op.den (AOpd.ev t) h=.ok c v h':=hr.trans he
  obtain⟨g,rfl⟩:=den_new hk hd
  simp only [DAO.wp,DAO.wp.run,hk]
  refine⟨hsc,sem_den _ _ _ _ ?_⟩
  rw [hd]
  have hi':∀ r∈rds,r.op.cls=1∧r.op.sem (AOpd.ev r.t) (h++g) (fun v' _=>v'=r.v):=fun r hr=>⟨(hi r hr).1,rd_keeps g (hi r hr).1 (hi r hr).2⟩
  exact⟨hp,recheck_of fun r hr=>(hi' r hr).2,hn fun r hr=>hi' r (List.mem_filter.1 hr).1⟩
theorem eff_sem {s:St} {K:AV→Heap→Prop} (hc:op.isCall=false) (h:op.sem (AOpd.ev s.t) s.h K):op.eff P s K:=by
  cases op <;> first|exact h|(simp [AOp.isCall] at hc)
theorem d_do_ {d:Option Nat} (hk:op.cls=3) (hc:op.isCall=false) (hr:Red (op.den (AOpd.ev t) h) r) (he:Red r (.ok c v h')) (hp:c) (hsc:(op.slots.all fun k=>(lk t k).sc h.length)=true) (hlen:h.length≤h'.length)
    (hre:recheck ps i h' rds) (hn:EDraw P ps l (i+1) ((i,h) :: past) (rds.filter fun r=>!(pr ps i).contains r.at_) K (St.put ⟨t,h⟩ d v h').t h'):EDraw P ps (⟨d,op,none⟩ :: l) i past rds K t h:=by
  intro hi
  have hd:op.den (AOpd.ev t) h=.ok c v h':=hr.trans he
  simp only [DAO.wp,DAO.wp.run,hk]
  refine⟨hsc,eff_sem hc (sem_den _ _ _ _ ?_)⟩
  rw [hd]
  refine⟨hp,hlen,hre,?_⟩
  have e:St.put ⟨t,h⟩ d v h'=⟨(St.put ⟨t,h⟩ d v h').t,h'⟩:=by cases d <;> rfl
  rw [e]
  refine hn fun r hr=>?_
  obtain⟨h1,h2⟩:=List.mem_filter.1 hr
  exact⟨(hi r h1).1,recheck_mem hre r h1 (by simpa using h2)⟩
theorem d_do (hk:op.cls=3) (hc:op.isCall=false) (hre:(rds.all fun r=>(pr ps i).contains r.at_)=true) (hr:Red (op.den (AOpd.ev t) h) r) (he:Red r (.ok c v h')) (hp:c) (hsc:(op.slots.all fun k=>(lk t k).sc h.length)=true) (hlen:h.length≤h'.length)
    (hn:EDraw P ps l (i+1) ((i,h) :: past) (rds.filter fun r=>!(pr ps i).contains r.at_) K t h'):EDraw P ps (⟨none,op,none⟩ :: l) i past rds K t h:=d_do_ hk hc hr he hp hsc hlen (recheck_none hre) hn
theorem d_set (hk:op.cls=3) (hc:op.isCall=false) (hre:(rds.all fun r=>(pr ps i).contains r.at_)=true) (hr:Red (op.den (AOpd.ev t) h) r) (he:Red r (.ok c v h')) (hp:c) (hsc:(op.slots.all fun k=>(lk t k).sc h.length)=true) (hlen:h.length≤h'.length)
    (hn:EDraw P ps l (i+1) ((i,h) :: past) (rds.filter fun r=>!(pr ps i).contains r.at_) K ((d,v) :: t) h'):EDraw P ps (⟨some d,op,none⟩ :: l) i past rds K t h:=d_do_ hk hc hr he hp hsc hlen (recheck_none hre) hn
theorem d_call_ {g:Heap} {f:FuncId} {args:List AOpd} {as:List AV} (ha:Red (args.map (AOpd.ev t)) as) (hc:ACalls P f as h (fun v' h2=>v'=v∧h2=h++g)) (hsc:((AOp.callF f args).slots.all fun k=>(lk t k).sc h.length)=true)
    (hn:EDraw P ps l (i+1) ((i,h) :: past) (rds.filter fun r=>!(pr ps i).contains r.at_) K ((d,v) :: t) (h++g)):EDraw P ps (⟨some d,.callF f args,none⟩ :: l) i past rds K t h:=by
  intro hi
  have ha':args.map (AOpd.ev t)=as:=ha
  simp only [DAO.wp,DAO.wp.run,AOp.cls]
  refine⟨hsc,v,h++g,by rw [ha'];exact hc,by simp,?_⟩
  have hi':∀ r∈rds,r.op.cls=1∧r.op.sem (AOpd.ev r.t) (h++g) (fun v' _=>v'=r.v):=fun r hr=>⟨(hi r hr).1,rd_keeps g (hi r hr).1 (hi r hr).2⟩
  exact⟨recheck_of fun r hr=>(hi' r hr).2,hn fun r hr=>hi' r (List.mem_filter.1 hr).1⟩
theorem d_call {f:FuncId} {args:List AOpd} {as:List AV} (ha:Red (args.map (AOpd.ev t)) as) (hc:ACalls P f as h (fun v' h2=>v'=v∧h2=h)) (hsc:((AOp.callF f args).slots.all fun k=>(lk t k).sc h.length)=true)
    (hn:EDraw P ps l (i+1) ((i,h) :: past) (rds.filter fun r=>!(pr ps i).contains r.at_) K ((d,v) :: t) h):EDraw P ps (⟨some d,.callF f args,none⟩ :: l) i past rds K t h :=
  d_call_ (g:=[]) ha (by simpa using hc) hsc (by simpa using hn)
theorem d_if {d:Option Nat} {g:Nat} {want:Bool} (b:Bool) (hb:Red (lk t g) (.bool b)) (h1:b=want→EDraw P ps (⟨d,op,none⟩ :: l) i past rds K t h)
    (h2:b≠want→EDraw P ps l (i+1) past rds K (St.put ⟨t,h⟩ d (.tuple []) h).t h):EDraw P ps (⟨d,op,some (g,want)⟩ :: l) i past rds K t h:=by
  intro hi
  simp only [DAO.wp,show lk t g=_ from hb]
  split
  · rename_i hbw
    have:=h1 hbw hi
    simp only [DAO.wp,DAO.wp.run] at this ⊢;exact this
  · rename_i hbw
    have e:St.put ⟨t,h⟩ d (.tuple []) h=⟨(St.put ⟨t,h⟩ d (.tuple []) h).t,h⟩:=by cases d <;> rfl
    rw [e];exact h2 hbw hi
theorem d_yes {d:Option Nat} {g:Nat} {want:Bool} (hb:Red (lk t g) (.bool want)) (h1:EDraw P ps (⟨d,op,none⟩ :: l) i past rds K t h):EDraw P ps (⟨d,op,some (g,want)⟩ :: l) i past rds K t h :=
  d_if want hb (fun _=>h1) (fun hn=>absurd rfl hn)
theorem d_no {g:Nat} {want b:Bool} (hb:Red (lk t g) (.bool b)) (hbw:b≠want) (h2:EDraw P ps l (i+1) past rds K ((d,.tuple []) :: t) h):EDraw P ps (⟨some d,op,some (g,want)⟩ :: l) i past rds K t h :=
  d_if b hb (fun hn=>absurd hn hbw) (fun _=>h2)
theorem d_un {g:Nat} {want:Bool} (hb:Red (lk t g) (.tuple [])) (h2:EDraw P ps l (i+1) past rds K ((d,.tuple []) :: t) h):EDraw P ps (⟨some d,op,some (g,want)⟩ :: l) i past rds K t h:=by
  intro hi
  simp only [DAO.wp,show lk t g=_ from hb]
  exact h2 hi
end
section
variable {P:Program}
theorem nextAny_mono {x:AV} {h:Heap} {K K':AV→Heap→Prop} (hK:∀ v h',K v h'→K' v h') (hs:nextAny x h K):nextAny x h K':=by
  unfold nextAny at hs ⊢
  split
  · rename_i id
    simp only at hs
    split
    · rename_i h1;rw [h1] at hs;exact hK _ _ hs
    · rename_i m since seen last h1
      rw [h1] at hs
      simp only at hs
      split
      · rename_i es bs c h2
        rw [h2] at hs
        refine⟨hs.1,?_⟩
        have h3:=hs.2
        split
        · rename_i h4;rw [h4] at h3;exact hK _ _ h3
        · rename_i h4;rw [h4] at h3
          exact fun y hy=>⟨(h3 y hy).1,hK _ _ (h3 y hy).2⟩
      · rename_i h2
        split at hs
        · rename_i h3;exact absurd h3 (h2 _ _ _)
        · exact hs
    · rename_i h1 h2
      split at hs
      · rename_i h3;exact absurd h3 (h1 _ _ _)
      · rename_i h3;exact absurd h3 (h2 _ _ _ _)
      · exact hs
  · rename_i h1
    split at hs
    · exact absurd rfl (h1 _)
    · exact hs
theorem AO.run_mono {o:AO} {K K':St→Prop} {s:St} (hK:∀ s,K s→K' s) (h:o.run P K s):o.run P K' s:=by
  obtain⟨d,op,g⟩:=o
  by_cases hnx:∃ i,op=.nextM i
  · obtain⟨i,rfl⟩:=hnx
    have h1:nextAny (i.ev s.t) s.h (fun v h'=>K (s.put d v h')):=h
    exact nextAny_mono (fun v h' hk=>hK _ hk) h1
  cases hc:op.isCall with
  | false =>
    have h1:op.sem (AOpd.ev s.t) s.h (fun v h'=>K (s.put d v h')):=by
      cases op <;> first|exact h|(simp [AOp.isCall] at hc;done)|exact absurd ⟨_,rfl⟩ hnx
    have h2:op.sem (AOpd.ev s.t) s.h (fun v h'=>K' (s.put d v h')):=sem_weak (fun v h' hk=>hK _ hk) h1
    cases op <;> first|exact h2|(simp [AOp.isCall] at hc;done)|exact absurd ⟨_,rfl⟩ hnx
  | true =>
    cases op <;> simp only [AOp.isCall,Bool.false_eq_true] at hc
    · simp only [AO.run] at h ⊢
      obtain⟨R,h1,h2⟩:=h
      exact⟨R,h1,fun v h' hr=>hK _ (h2 v h' hr)⟩
    · simp only [AO.run] at h ⊢
      split at h
      · obtain⟨R,h1,h2⟩:=h
        exact⟨R,h1,fun v h' hr=>hK _ (h2 v h' hr)⟩
      · obtain⟨R,h1,h2⟩:=h
        exact⟨R,h1,fun v h' hr=>hK _ (h2 v h' hr)⟩
      · cases h
theorem AO.wp_mono {o:AO} {K K':St→Prop} {s:St} (hK:∀ s,K s→K' s) (h:o.wp P K s):o.wp P K' s:=by
  unfold AO.wp at h ⊢
  split
  · rename_i hg;rw [hg] at h;exact AO.run_mono hK h
  · rename_i g want hg
    rw [hg] at h
    simp only at h
    split at h
    · split at h
      · rename_i hb;rw [if_pos hb];exact AO.run_mono hK h
      · rename_i hb hne;simp only [hne,if_false];exact hK _ h
    · exact hK _ h
    · cases h
theorem AOs.wp_mono:∀ {l:List AO} {K K':St→Prop} {s:St},(∀ s,K s→K' s)→AOs.wp P l K s→AOs.wp P l K' s
  | [],_,_,_,hK,h=>hK _ h
  | o :: os,K,K',s,hK,h=>AO.wp_mono (K:=fun s'=>AOs.wp P os K s') (K':=fun s'=>AOs.wp P os K' s') (fun s hs=>AOs.wp_mono hK hs) h
theorem eff_mono {op:AOp} {s:St} {K K':AV→Heap→Prop} (hK:∀ v h',K v h'→K' v h') (h:op.eff P s K):op.eff P s K':=by
  cases hc:op.isCall with
  | false =>
    have h1:op.sem (AOpd.ev s.t) s.h K:=by cases op <;> first|exact h|(simp [AOp.isCall] at hc)
    exact eff_sem hc (sem_weak hK h1)
  | true =>
    cases op <;> simp only [AOp.isCall,Bool.false_eq_true] at hc
    · simp only [AOp.eff] at h ⊢
      obtain⟨v,h',h1,h2⟩:=h
      exact⟨v,h',h1,hK _ _ h2⟩
    · simp only [AOp.eff] at h ⊢
      split at h
      · obtain⟨v,h',h1,h2⟩:=h
        exact⟨v,h',h1,hK _ _ h2⟩
      · obtain⟨v,h',h1,h2⟩:=h
        exact⟨v,h',h1,hK _ _ h2⟩
      · cases h
theorem DAO.wp_mono {ps:List (List Nat)} {K K':St→Prop} (hK:∀ s,K s→K' s):∀ {l:List AO} {i:Nat} {past:List (Nat × Heap)} {rds:List Rd} {s:St},DAO.wp P ps l i past rds K s→DAO.wp P ps l i past rds K' s
  | [],_,_,_,_,h=>by simp only [DAO.wp] at h ⊢;exact hK _ h
  | o :: os,i,past,rds,s,h=>by
    have run:DAO.wp.run P ps o os i past rds K s→DAO.wp.run P ps o os i past rds K' s:=by
      intro h
      simp only [DAO.wp.run] at h ⊢
      split
      · rename_i hc;rw [hc] at h;exact sem_weak (fun v _ hk=>DAO.wp_mono hK hk) h
      · rename_i hc;rw [hc] at h;exact sem_weak (fun v _ hk=>⟨hk.1,DAO.wp_mono hK hk.2⟩) h
      · rename_i hc;rw [hc] at h;exact⟨h.1,sem_weak (fun v _ hk=>⟨hk.1,DAO.wp_mono hK hk.2⟩) h.2⟩
      · split at h
        · contradiction
        · contradiction
        · contradiction
        · exact⟨h.1,eff_mono (fun v _ hk=>⟨hk.1,hk.2.1,DAO.wp_mono hK hk.2.2⟩) h.2⟩
    simp only [DAO.wp] at h ⊢
    split
    · rename_i hg;rw [hg] at h;exact run h
    · rename_i g want hg
      rw [hg] at h
      simp only at h
      split at h
      · split at h
        · rename_i hb;rw [if_pos hb];exact run h
        · rename_i hb;rw [if_neg hb];exact DAO.wp_mono hK h
      · exact DAO.wp_mono hK h
      · cases h
end
section
variable {P:Program} {ps:List (List Nat)} {H h:Heap} {K:St→Prop} {t:List (Nat × AV)} {l:List AO} {i:Nat} {past:List (Nat × Heap)} {rds:List Rd} {ks:List Nat} {Q:Exit→St→Prop}
def EKeep (R:List (Nat × AV)→Heap→Prop):Exit→St→Prop:=fun e s=>e=.normal∧R s.t s.h
end
end Go.Abs
