/- Several texts as one. -/
import Derived.Test.YtdocpfbfchaekaaGreatA15
/- How a region runs in an order that it draws. -/
namespace Go.Abs
open Go.RowKit
variable {P:Program}
theorem HeapOK.pad {B:Nat} {σ:Sg} {h:Heap} {w:World} (k:HeapOK P B σ h w) (ζ:Sg):HeapOK P B (σ++ζ) (h++List.replicate ζ.length .dead) w:=by
  have old:∀ (i:Nat) (o:AObj),(h++List.replicate ζ.length AObj.dead)[i]?=some o→o.live=true→i<h.length∧h[i]?=some o:=by
    intro i o hi hl
    rcases Nat.lt_or_ge i h.length with h'|h'
    · rw [List.getElem?_append_left h'] at hi;exact⟨h',hi⟩
    · rw [List.getElem?_append_right h',List.getElem?_replicate] at hi
      split at hi
      · simp only [Option.some.injEq] at hi;subst hi;simp [AObj.live] at hl
      · cases hi
  refine⟨by simp [k.len],k.low,?_,?_⟩
  · intro i o l hi hl
    by_cases hv:o.live=true
    · obtain⟨h1,h2⟩:=old i o hi hv
      rw [List.getElem?_append_left (by rw [k.len];exact h1)] at hl
      exact (k.obj i o l h2 hl).mono (Ext.app _ _)
    · cases o with
      | dead=>trivial
      | other _=>simp [AObj.live] at hv
      | cells _ _=>simp [AObj.live] at hv
  · intro i j oi oj li lj hi hj ho hv hli hlj hne
    have hvi:oi.live=true:=by cases oi <;> simp_all [AObj.isOwn,AObj.live]
    obtain⟨h1,h2⟩:=old i oi hi hvi
    obtain⟨h3,h4⟩:=old j oj hj hv
    rw [List.getElem?_append_left (by rw [k.len];exact h1)] at hli
    rw [List.getElem?_append_left (by rw [k.len];exact h3)] at hlj
    exact k.uniq i j oi oj li lj h2 h4 ho hv hli hlj hne
theorem Grow.pad {σ:Sg} {h:Heap} {w:World} (hl:σ.length=h.length) (ζ:Sg):Grow σ h w (σ++ζ) (h++List.replicate ζ.length .dead) w:=by
  refine Grow.same fun j o l h1 h2 h3=>?_
  rcases Nat.lt_or_ge j h.length with h'|h'
  · rw [List.getElem?_append_left h'] at h1
    rw [List.getElem?_append_left (by omega)] at h3
    exact⟨j,o,l,h1,h2,fun h=>h,h3,rfl⟩
  · rw [List.getElem?_append_right h',List.getElem?_replicate] at h1
    split at h1
    · simp only [Option.some.injEq] at h1;subst h1;simp [AObj.live] at h2
    · cases h1
def MRel (σ:Sg):Option (List AV)→Obj→Nat→Prop
  | some cs,o,tot=>∃ vals e,o=.cells vals e (0,0)∧vals.size=tot∧RelL σ cs vals.toList
  | none,o,_=>o=.map #[] 0
theorem MRel.mono {σ σ':Sg} (h:Ext σ σ'):∀ {cs:Option (List AV)} {o:Obj} {tot:Nat},MRel σ cs o tot→MRel σ' cs o tot
  | some _,_,_,⟨vals,e,h1,h2,h3⟩=>⟨vals,e,h1,h2,RelL.mono h _ _ h3⟩
  | none,_,_,h=>h
theorem HeapOK.adopt {B:Nat} {σ:Sg} {h:Heap} {w:World} (k:HeapOK P B σ h w) {l:Loc} {cs:Option (List AV)} {ob:Obj}
    (hb:w.heap[l.blk]?=some ob) (h0:l.base=0) (hr:MRel (σ++[some l]) cs ob l.tot) (hB:B≤l.blk)
    (hu:∀ (j:Nat) (o:AObj) (m:Loc),h[j]?=some o→o.live=true→σ[j]?=some (some m)→m.blk≠l.blk):HeapOK P B (σ++[some l]) (h++[MObj cs]) w:=by
  refine⟨by simp [k.len],k.low,?_,?_⟩
  · intro i o m hi hm
    rcases append_cases hi with⟨h1,h2⟩|⟨h1,h2⟩
    · rw [List.getElem?_append_left (by rw [k.len];exact h1)] at hm
      exact (k.obj i o m h2 hm).mono (Ext.app _ _)
    · subst h1;subst h2
      rw [← k.len] at hm;simp at hm;subst hm
      cases cs with
      | some cs =>
        obtain⟨vals,e,rfl,ht,hr⟩:=hr
        refine⟨(Array.getElem?_eq_some_iff.1 hb).1,fun j v hv=>?_,fun _=>⟨hB,h0,vals,e,hb,ht,?_⟩⟩
        · obtain⟨c,h1,h2⟩:=hr.get hv
          refine⟨c,?_,h2⟩
          simp only [World.cell?,hb,h0,Nat.zero_add]
          simpa using h1
        · have:=hr.length;simp at this;omega
      | none =>
        have hr:ob=.map #[] 0:=hr
        subst hr
        exact⟨(Array.getElem?_eq_some_iff.1 hb).1,hB,h0,#[],hb,rfl,rfl⟩
  · intro i j oi oj li lj hi hj ho hv hli hlj hne
    have hvi:oi.live=true:=by cases oi <;> simp_all [AObj.isOwn,AObj.live]
    rcases append_cases hi with⟨h1,h2⟩|⟨h1,h2⟩ <;> rcases append_cases hj with⟨h3,h4⟩|⟨h3,h4⟩
    · rw [List.getElem?_append_left (by rw [k.len];exact h1)] at hli
      rw [List.getElem?_append_left (by rw [k.len];exact h3)] at hlj
      exact k.uniq i j oi oj li lj h2 h4 ho hv hli hlj hne
    · rw [List.getElem?_append_left (by rw [k.len];exact h1)] at hli
      subst h3
      rw [← k.len] at hlj;simp at hlj;subst hlj
      exact hu i oi li h2 hvi hli
    · rw [List.getElem?_append_left (by rw [k.len];exact h3)] at hlj
      subst h1
      rw [← k.len] at hli;simp at hli;subst hli
      exact (hu j oj lj h4 hv hlj).symm
    · omega
section
variable {P:Program} {rnd:Rn} {B sz:Nat} {σ:Sg} {w:World} {a:Act}
theorem op_step {o:Oper} {op:AOp} {t:List (Nat × AV)} {h:Heap} {K:AV→Heap→Prop} (h1:cOp P o=some op) (hk:HeapOK P B σ h w) (ht:TOK σ t a) (hs:op.eff P ⟨t,h⟩ K)
    {next:Act→World→Prop} {Q:Exit→Act→World→Prop}
    (hnext:∀ c w' τ v h',HeapOK P B (σ++τ) h' w'→Rel (σ++τ) v c→Grow σ h w (σ++τ) h' w'→K v h'→next (a.put o.dst c) w'):o.wpIn (RF rnd) 0 P a w next Q:=by
  have call:(∀ c,o.op≠.defer c)→∀ (f:FuncId) (args:List AV) (cargs:Array Value) (v0:AV) (h0:Heap),(execOp a.eval o).run P w=.ok (.enter f cargs) w→RelL σ args cargs.toList →
      ACalls P f args h (fun v2 h2=>v2=v0∧h2=h0)→K v0 h0→o.wpIn (RF rnd) 0 P a w next Q:=by
    intro hdf f args cargs v0 h0 hrun hrel hcall hK
    refine wpIn_of hdf ?_
    rw [hrun,Oper.uponIn_enter]
    refine⟨depth_rf,?_⟩
    have hcc:CallsIn Fence.wide (0-1) P f cargs w _:=callsIn_wide.2 (hcall.2 B σ w cargs hk hrel)
    refine CallsIn.mono (F:=RF rnd) hcc ?_
    rintro e w' ⟨c,σ',v,h',rfl,⟨τ,rfl⟩,e3,e4,e5,rfl,rfl⟩
    exact hnext c w' τ v h' e3 e4 e5 hK
  unfold cOp at h1
  split at h1
  · rename_i op' hcc
    simp only [Option.some.injEq] at h1;subst h1
    rcases cCall_cases hcc with⟨f,args,ats,as,ho,hg,hca,rfl⟩|⟨i,args,ats,as,ho,hca,rfl⟩
    · obtain⟨v0,h0,hcall,hK⟩:=hs
      refine call (by intro c e;rw [ho] at e;cases e) f _ (args.map a.eval) v0 h0 ?_ (by simpa using copds_rel ht hca) hcall hK
      simp [execOp,ho,resolve,Deferred.ofValue,Act.eval,invoke,guardFun_call hg]
    · simp only [AOp.eff,AOpd.ev] at hs
      split at hs
      · rename_i f first caps hf
        obtain⟨v0,h0,hcall,hK⟩:=hs
        have hv:=ht i
        rw [hf] at hv
        obtain⟨fa,ca,hv1,hv2,hv3⟩:=hv
        refine call (by intro c e;rw [ho] at e;cases e) f _ (fa++args.map a.eval++ca) v0 h0 ?_ ?_ hcall hK
        · have:a.eval (.tmp i)=.func (.func f) fa ca:=hv1
          simp [execOp,ho,resolve,Deferred.ofValue,this,invoke,guardFun_call hcall.1]
        · have:=RelL.append (RelL.append hv2 (copds_rel ht hca)) hv3
          simpa using this
      · rename_i id hf
        obtain⟨v0,h0,hy,hK⟩:=hs
        have hv:=ht i
        rw [hf] at hv
        obtain⟨l0,hv1,hv2⟩:=hv
        obtain⟨l,fn,tm,as',bo,q1,q2,q3⟩:=hy B σ w (args.map a.eval) hk (by simpa using copds_rel ht hca)
        have el:l=l0:=by rw [hv1] at q1;cases q1;rfl
        subst el
        refine wpIn_of (by intro c e;rw [ho] at e;cases e) ?_
        have:a.eval (.tmp i)=.func (.yield l.blk) #[] #[]:=hv2
        have hrun:(execOp a.eval o).run P w=.ok (.round l.blk fn tm as' bo) w:=by
          simp [execOp,ho,resolve,Deferred.ofValue,this,invoke,q2]
        rw [hrun,Oper.uponIn_round]
        refine⟨depth_rf,RoundIn.mono (F:=RF rnd) q3 ?_⟩
        rintro e w' ⟨c,σ',v,h',rfl,⟨τ,rfl⟩,e3,e4,e5,rfl,rfl⟩
        exact hnext c w' τ v h' e3 e4 e5 hK
      · cases hs
  · split at h1
    · rename_i op' hop
      split at h1
      · cases h1
      · rename_i hnc
        simp only [Option.some.injEq] at h1;subst h1
        have hsem:op'.sem (AOpd.ev t) h K:=by
          cases op' <;> first|exact hs|(simp [AOp.isCall] at hnc)
        obtain⟨c,w',τ,v,h',hr,g1,g2,g3,g4⟩:=AOp.sound hop hk ht hsem
        refine wpIn_of (cop_defer hop) ?_
        rcases hr with hr|⟨rfl,hr⟩
        · rw [hr];exact hnext _ _ _ _ _ g1 g2 g3 g4
        · rw [hr];exact hnext _ _ _ _ _ g1 g2 g3 g4
    · simp only [Option.some.injEq] at h1;subst h1
      exact hs.elim
theorem made_step {o:Oper} {op:AOp} {t:List (Nat × AV)} {cs:Option (List AV)} {f:Nat→AV} (h1:cOp P o=some op) (hcls:op.cls=2) (ht:TOK σ t a)
    (hm:op.made (AOpd.ev t)=some (cs,f)) {next:Act→World→Prop} {Q:Exit→Act→World→Prop}
    (hnext:∀ (c:Value) (ob:Obj) (tot:Nat),MRel σ cs ob tot→(∀ (σ':Sg) (p:Nat) (l:Loc),σ'[p]?=some (some l)→l.blk=w.heap.size→l.base=0→l.tot=tot→Rel σ' (f p) c) →
      next (a.put o.dst c) (w.alloc ob)):o.wpIn (RF rnd) 0 P a w next Q:=by
  unfold cOp at h1
  split at h1
  · rename_i op' hcc
    simp only [Option.some.injEq] at h1;subst h1
    rcases cCall_cases hcc with⟨f,args,ats,as,ho,hg,hca,rfl⟩|⟨i,args,ats,as,ho,hca,rfl⟩ <;> simp [AOp.cls] at hcls
  · split at h1
    · rename_i op' hop
      split at h1
      · cases h1
      · simp only [Option.some.injEq] at h1;subst h1
        have key:∃ (c:Value) (ob:Obj) (tot:Nat),(execOp a.eval o).run P w=.ok (.value c) (w.alloc ob)∧MRel σ cs ob tot ∧
            (∀ (σ':Sg) (p:Nat) (l:Loc),σ'[p]?=some (some l)→l.blk=w.heap.size→l.base=0→l.tot=tot→Rel σ' (f p) c):=by
          obtain⟨dst,oop,ty,pos,after,guard⟩:=o
          cases oop <;> simp only [cop] at hop
          case alloc =>
            rename_i e _
            obtain⟨zs,hz,rfl⟩:=map_some hop
            simp only [AOp.made,Option.some.injEq,Prod.mk.injEq] at hm
            obtain⟨rfl,rfl⟩:=hm
            obtain⟨i,z,hi,hz0,hz1⟩:=info_zero hz
            refine⟨.pointer (some ⟨w.heap.size,0,none⟩),.cells z.cells e (0,0),z.cells.size,?_,⟨_,_,rfl,rfl,scalarsAV_rel σ hz1⟩,?_⟩
            · simp [execOp,Instr.alloc,zeroValue,typeInfo,hi,hz0,newVar,newRow]
            · intro σ' p l hl hb h0 _
              exact⟨l,hl,by rw [hb,h0]⟩
          case box =>
            rename_i e x _
            obtain⟨ax,hx,rfl⟩:=map_some hop
            simp only [AOp.made] at hm
            obtain⟨cs',hcs,hcf⟩:=map_some hm
            simp only [Prod.mk.injEq] at hcf
            obtain⟨rfl,rfl⟩:=hcf
            refine⟨.pointer (some ⟨w.heap.size,0,none⟩),.cells (a.eval x).cells e (0,0),(a.eval x).cells.size,?_,⟨_,_,rfl,rfl,cellsOf_rel hcs (copd_rel ht hx)⟩,?_⟩
            · simp [execOp,Instr.box,newVar,newRow]
            · intro σ' p l hl hb h0 _
              exact⟨l,hl,by rw [hb,h0]⟩
          case buildSlice =>
            rename_i s ln parts _
            split at hop
            · rename_i e hu
              split at hop
              · rename_i sz zs g1 g2
                split at hop
                · rename_i hcond
                  obtain⟨aps,hp,rfl⟩:=map_some hop
                  simp only [AOp.made] at hm
                  obtain⟨cs',hcs,hcf⟩:=map_some hm
                  simp only [Prod.mk.injEq] at hcf
                  obtain⟨rfl,rfl⟩:=hcf
                  obtain⟨cells,k2,hcl,hrun⟩:=bslice_run (w:=w) (dst:=dst) (ty:=ty) (pos:=pos) (after:=after) (guard:=guard) ht hu g1 g2 hcond.1 hcond.2.1 hcond.2.2 hp hcs
                  refine⟨_,.cells cells e (0,0),cells.size,hrun,⟨_,_,rfl,rfl,k2⟩,?_⟩
                  intro σ' p l hl hb h0 htt
                  refine .inr ⟨l,0,ln,hl,by rw [hb],Nat.le_refl _,fun _=>rfl,.inr ⟨by omega,?_⟩⟩
                  rw [h0,htt,hcl];omega
                · cases hop
              · cases hop
            · cases hop
          case makeSlice =>
            rename_i s x y _
            split at hop
            · rename_i e ax ay hu hx hy
              split at hop
              · rename_i i zs hi hz
                split at hop
                · rename_i hcond
                  simp only [Option.some.injEq] at hop;subst hop
                  simp only [AOp.made] at hm
                  split at hm
                  · rename_i k1 n k2 c e1 e2
                    split at hm
                    · rename_i hc2
                      simp only [Option.some.injEq,Prod.mk.injEq] at hm
                      obtain⟨rfl,rfl⟩:=hm
                      have rx:=copd_rel ht hx
                      have ry:=copd_rel ht hy
                      rw [e1] at rx;rw [e2] at ry
                      simp only [Rel] at rx ry
                      obtain⟨i',z,hi',hz0,hz1⟩:=info_zero hz
                      have ei:i'=i:=by rw [hi] at hi';cases hi';rfl
                      subst ei
                      have hrel:RelL σ zs z.cells.toList:=scalarsAV_rel σ hz1
                      have hzs:z.cells.size=i'.size:=by have:=hrel.length;simp at this;omega
                      have hrun:=run_make (P:=P) w s e i' z hu hi hz0 k1 k2 n c hc2.1 hc2.2.1 hc2.2.2.1 hc2.2.2.2
                      have hcells:(madeCells z.cells (c.toNat * i'.size)).toList=(List.replicate c.toNat z.cells.toList).flatten:=by rw [← hzs];exact madeCells_eq (by omega)
                      have hl:=congrArg List.length hcells
                      simp [List.length_flatten,hzs] at hl
                      refine⟨.slice (some ⟨w.heap.size,0,none⟩) n.toNat c.toNat,.cells (madeCells z.cells (c.toNat * i'.size)) e (0,0),(madeCells z.cells (c.toNat * i'.size)).size,?_,⟨_,_,rfl,rfl,(by rw [hcells];exact relL_rep hrel _)⟩,?_⟩
                      rotate_left
                      · intro σ' p l hlp hb h0 htt
                        refine .inr ⟨l,0,c.toNat,hlp,(by rw [hb]),by omega,fun hd=>?_,.inr ⟨by omega,?_⟩⟩
                        · simp at hd;omega
                        · rw [h0,htt,hl];omega
                      · simp [execOp,rx,ry,hrun]
                    · cases hm
                  · cases hm
                · cases hop
              · cases hop
            · cases hop
          case makeMap =>
            rename_i s r _
            cases r with
            | some r=>cases hop
            | none =>
              simp only [Option.some.injEq] at hop;subst hop
              simp only [AOp.made,Option.some.injEq,Prod.mk.injEq] at hm
              obtain⟨rfl,rfl⟩:=hm
              refine⟨.map (some w.heap.size),.map #[] 0,0,?_,rfl,?_⟩
              · simp [execOp,Instr.makeMap]
              · intro σ' p l hl hb h0 _
                exact⟨l,hl,by rw [hb]⟩
          case next =>
            rename_i it b _
            cases b with
            | false=>obtain⟨x,hx,rfl⟩:=map_some hop;simp [AOp.cls] at hcls
            | true=>cases hop
          all_goals (exfalso;(repeat' split at hop) <;> first|(cases hop;done)|(simp only [Option.some.injEq] at hop;subst hop;simp [AOp.cls] at hcls;done)|(obtain⟨x,hx,rfl⟩:=map_some hop;simp [AOp.cls] at hcls;done))
        obtain⟨c,ob,tot,hrun,hrel,hval⟩:=key
        refine wpIn_of (cop_defer hop) ?_
        rw [hrun]
        exact hnext c ob tot hrel hval
    · simp only [Option.some.injEq] at h1;subst h1
      simp [AOp.cls] at hcls
end
end Go.Abs
/- A region in an order that it draws: what holds while it runs. -/
namespace Go.Abs
open Go.RowKit
structure Static (P:Program) (sz:Nat) (ops:Array Oper) (al:List AO) (ps:List (List Nat)):Prop where
  len:al.length=ops.size
  comp:∀ (i:Nat) (o:Oper),ops[i]?=some o→∃ ao,al[i]?=some ao∧cAO P sz ops o=some ao
  pre:∀ (i:Nat) (o:Oper),ops[i]?=some o→∀ k∈pr ps i,k<i∧((∃ e∈o.after,Region.binds .any e=true∧e.on=k)∨∃ e∈o.after,Region.binds .any e=true∧k∈pr ps e.on)
  dst:∀ (i j:Nat) (oi oj:AO) (d:Nat),al[i]?=some oi→al[j]?=some oj→oi.dst=some d→oj.dst=some d→i=j
  use:∀ (i k:Nat) (oi ok:AO) (d:Nat),al[i]?=some oi→al[k]?=some ok→d∈oi.slots→ok.dst=some d→k∈pr ps i∨i∈pr ps k
  chain:∀ (i j:Nat) (oi oj:AO),al[i]?=some oi→al[j]?=some oj→i<j→2≤oi.op.cls→oj.op.cls=3→i∈pr ps j
section
variable {P:Program} {rnd:Rn} {sz:Nat} {ops:Array Oper} {al:List AO} {ps:List (List Nat)} {c:Cert} {K:St→Prop} {s:St}
def pid (c:Cert) (i:Nat):Nat:=(c.hp i).length
theorem made_hp {o:AO} {i:Nat} (hr:c.Runs P o i) (hcls:o.op.cls=2) (hsk:c.sk i=false) :
    ∃ cs f,o.op.made (AOpd.ev (c.T i))=some (cs,f)∧c.v i=f (pid c i)∧c.hp (i+1)=c.hp i++[MObj cs]∧(o.op.slots.all fun k=>(lk (c.T i) k).sc (c.hp i).length)=true:=by
  rcases hr.2 with⟨h1,_⟩|⟨_,_,⟨h1,_⟩|⟨h1,_⟩|⟨_,h2,h3⟩|⟨h1,_⟩⟩
  · rw [hsk] at h1;cases h1
  · omega
  · omega
  · obtain⟨cs,f,g1,g2,g3⟩:=sem_made hcls h2
    exact⟨cs,f,g1,g2.symm,g3.symm,h3⟩
  · omega
theorem hp_step {o:AO} {i:Nat} (hr:c.Runs P o i):(c.hp i).length≤(c.hp (i+1)).length:=by
  rcases hr.2 with⟨_,_,h3,_⟩|⟨hsk,_,⟨_,h2,_⟩|⟨_,h2⟩|⟨h1,_⟩|⟨_,_,h3,_⟩⟩
  · rw [h3];exact Nat.le_refl _
  · rw [h2];exact Nat.le_refl _
  · rw [h2];exact Nat.le_refl _
  · obtain⟨cs,f,_,_,g3,_⟩:=made_hp hr h1 hsk
    rw [g3];simp
  · exact h3
theorem hp_mono (hruns:∀ (j:Nat) (o:AO),al[j]?=some o→c.Runs P o j):∀ {i j:Nat},i≤j→j≤al.length→(c.hp i).length≤(c.hp j).length:=by
  intro i j hij
  induction hij with
  | refl=>intro _;exact Nat.le_refl _
  | step h ih =>
    intro hle
    rename_i m
    have hm:m<al.length:=hle
    exact Nat.le_trans (ih (by omega)) (hp_step (hruns m al[m] (by simp)))
theorem hp_quiet {o:AO} {i:Nat} (hr:c.Runs P o i) (hn:¬ c.HR o.op i):c.hp (i+1)=c.hp i:=by
  rcases hr.2 with⟨_,_,h3,_⟩|⟨hsk,_,⟨_,h2,_⟩|⟨_,h2⟩|⟨h1,_⟩|⟨h1,_⟩⟩
  · exact h3
  · exact h2
  · exact h2
  · exact (hn ⟨by omega,hsk⟩).elim
  · exact (hn ⟨by omega,hsk⟩).elim
theorem T_lk (hruns:∀ (j:Nat) (o:AO),al[j]?=some o→c.Runs P o j) (hd:∀ (i j:Nat) (oi oj:AO) (d:Nat),al[i]?=some oi→al[j]?=some oj→oi.dst=some d→oj.dst=some d→i=j)
    {t0:List (Nat × AV)} (h0:c.T 0=t0):∀ (j:Nat),j≤al.length→∀ k,
      (∀ (i:Nat) (o:AO),i<j→al[i]?=some o→o.dst=some k→lk (c.T j) k=c.v i)∧((∀ (i:Nat) (o:AO),i<j→al[i]?=some o→o.dst≠some k)→lk (c.T j) k=lk t0 k)
  | 0,_,k=>⟨fun i o hi=>by omega,fun _=>by rw [h0]⟩
  | j+1,hj,k=>by
    obtain⟨ih1,ih2⟩:=T_lk hruns hd h0 j (by omega) k
    have ho:al[j]?=some al[j]:=by simp
    have hT:=(hruns j al[j] ho).1
    cases hdst:(al[j]).dst with
    | none =>
      rw [hdst] at hT
      rw [hT]
      refine⟨fun i o hi hio hk=>?_,fun h=>ih2 fun i o hi hio=>h i o (by omega) hio⟩
      rcases Nat.lt_or_ge i j with h|h
      · exact ih1 i o h hio hk
      · have:i=j:=by omega
        subst this
        rw [ho] at hio;simp only [Option.some.injEq] at hio;subst hio
        rw [hdst] at hk;cases hk
    | some d =>
      rw [hdst] at hT
      rw [hT]
      simp only [lk]
      by_cases hdk:d=k
      · subst hdk
        simp only [if_true]
        refine⟨fun i o hi hio hk=>?_,fun h=>(h j al[j] (by omega) ho hdst).elim⟩
        have:=hd i j o al[j] d hio ho hk hdst
        subst this;rfl
      · simp only [hdk,if_false]
        refine⟨fun i o hi hio hk=>?_,fun h=>ih2 fun i o hi hio=>h i o (by omega) hio⟩
        rcases Nat.lt_or_ge i j with h|h
        · exact ih1 i o h hio hk
        · have:i=j:=by omega
          subst this
          rw [ho] at hio;simp only [Option.some.injEq] at hio;subst hio
          rw [hdst] at hk;simp only [Option.some.injEq] at hk;exact (hdk hk).elim
def TOKD (c:Cert) (al:List AO) (t0:List (Nat × AV)) (σ:Sg) (D:List Nat) (a:Act):Prop:=∀ k,
  (∀ (i:Nat) (o:AO),i∈D→al[i]?=some o→o.dst=some k→Rel σ (c.v i) (a.tmps.getD k undef))∧((∀ (i:Nat) (o:AO),i∈D→al[i]?=some o→o.dst≠some k)→Rel σ (lk t0 k) (a.tmps.getD k undef))
theorem TOKD.mono {t0:List (Nat × AV)} {σ σ':Sg} {D:List Nat} {a:Act} (he:Ext σ σ') (h:TOKD c al t0 σ D a):TOKD c al t0 σ' D a :=
  fun k=>⟨fun i o hi ho hk=>Rel.mono he _ _ ((h k).1 i o hi ho hk),fun hn=>Rel.mono he _ _ ((h k).2 hn)⟩
theorem TOKD.put {t0:List (Nat × AV)} {σ:Sg} {D:List Nat} {a:Act} {i:Nat} {o:AO} {x:Value} (hd:∀ (i j:Nat) (oi oj:AO) (d:Nat),al[i]?=some oi→al[j]?=some oj→oi.dst=some d→oj.dst=some d→i=j)
    (h:TOKD c al t0 σ D a) (ho:al[i]?=some o) (hsz:∀ d,o.dst=some d→d<a.tmps.size) (hx:Rel σ (c.v i) x):TOKD c al t0 σ (D++[i]) (a.put o.dst x):=by
  intro k
  have hget:∀ d,o.dst=some d→d≠k→(a.put o.dst x).tmps.getD k undef=a.tmps.getD k undef:=by
    intro d hdd hne
    rw [hdd]
    simp only [Act.put,Array.getD_eq_getD_getElem?,Array.getElem?_setIfInBounds,hne,if_false]
  have hnone:o.dst=none→(a.put o.dst x).tmps.getD k undef=a.tmps.getD k undef:=by
    intro hdd;rw [hdd];rfl
  have hsame:o.dst=some k→(a.put o.dst x).tmps.getD k undef=x:=by
    intro hdd
    have:=hsz k hdd
    rw [hdd]
    simp [Act.put,Array.getD,this]
  refine⟨fun j oj hj hoj hk=>?_,fun hn=>?_⟩
  · rw [List.mem_append,List.mem_singleton] at hj
    rcases hj with hj|rfl
    · cases hdd:o.dst with
      | none=>rw [← hdd,hnone hdd];exact (h k).1 j oj hj hoj hk
      | some d =>
        by_cases hdk:d=k
        · subst hdk
          have:=hd j i oj o d hoj ho hk hdd
          subst this
          rw [← hdd,hsame hdd];exact hx
        · rw [← hdd,hget d hdd hdk];exact (h k).1 j oj hj hoj hk
    · rw [ho] at hoj;simp only [Option.some.injEq] at hoj;subst hoj
      rw [hsame hk];exact hx
  · have hne:o.dst≠some k:=hn i o (by simp) ho
    have hold:=(h k).2 fun j oj hj hoj=>hn j oj (by simp [hj]) hoj
    cases hdd:o.dst with
    | none=>rw [← hdd,hnone hdd];exact hold
    | some d =>
      have hdk:d≠k:=fun e=>hne (by rw [hdd,e])
      rw [← hdd,hget d hdd hdk];exact hold
theorem opnd (hs:Static P sz ops al ps) (hruns:∀ (j:Nat) (o:AO),al[j]?=some o→c.Runs P o j) {t0:List (Nat × AV)} (h0:c.T 0=t0) {σ:Sg} {D:List Nat} {a:Act} (h:TOKD c al t0 σ D a)
    {i:Nat} {o:AO} (ho:al[i]?=some o) (hD:i ∉ D) (hcl:∀ j∈D,∀ k∈pr ps j,k∈D) (hpre:∀ k∈pr ps i,k∈D) :
    ∀ k∈o.slots,Rel σ (lk (c.T i) k) (a.tmps.getD k undef):=by
  intro k hk
  have hlt:=get_some_lt ho
  obtain⟨t1,t2⟩:=T_lk hruns hs.dst h0 i (by omega) k
  rcases Classical.em (∃ (j:Nat) (oj:AO),al[j]?=some oj∧oj.dst=some k) with⟨j,oj,hj,hjk⟩|hno
  · rcases hs.use i j o oj k ho hj hk hjk with hm|hm
    · have hops:∃ op,ops[i]?=some op:=⟨ops[i]'(by rw [← hs.len];exact hlt),by simp [hs.len ▸ hlt]⟩
      obtain⟨op,hop⟩:=hops
      have hji:=(hs.pre i op hop j hm).1
      rw [t1 j oj hji hj hjk]
      exact (h k).1 j oj (hpre j hm) hj hjk
    · have hjlt:=get_some_lt hj
      have hops:∃ op,ops[j]?=some op:=⟨ops[j]'(by rw [← hs.len];exact hjlt),by simp [hs.len ▸ hjlt]⟩
      obtain⟨op,hop⟩:=hops
      have hij:=(hs.pre j op hop i hm).1
      have hjD:j ∉ D:=fun hjD=>hD (hcl j hjD i hm)
      rw [t2 (fun m om hm hom hmk=>by have:=hs.dst m j om oj k hom hj hmk hjk;omega)]
      exact (h k).2 fun m om hmD hom hmk=>hjD (by have:=hs.dst m j om oj k hom hj hmk hjk;rw [← this];exact hmD)
  · rw [t2 (fun m om _ hom hmk=>hno ⟨m,om,hom,hmk⟩)]
    exact (h k).2 fun m om _ hom hmk=>hno ⟨m,om,hom,hmk⟩
def onlySlots (t:List (Nat × AV)) (ks:List Nat):List (Nat × AV):=ks.map fun k=>(k,lk t k)
theorem onlySlots_lk (t:List (Nat × AV)):∀ (ks:List Nat),(∀ k∈ks,lk t k=lk (onlySlots t ks) k)
  | [],_,h=>by cases h
  | j :: ks,k,h=>by
    simp only [onlySlots,List.map_cons,lk]
    by_cases hj:j=k
    · subst hj;simp
    · simp only [hj,if_false]
      rcases List.mem_cons.1 h with rfl|h
      · exact (hj rfl).elim
      · exact onlySlots_lk t ks k h
theorem onlySlots_tok {σ:Sg} {t:List (Nat × AV)} {ks:List Nat} {a:Act} (h:∀ k∈ks,Rel σ (lk t k) (a.tmps.getD k undef)):TOK σ (onlySlots t ks) a:=by
  intro k
  rcases lk_prune t ks k with hj|hj
  · show Rel σ (lk (ks.map fun k=>(k,lk t k)) k) _
    rw [hj];trivial
  · show Rel σ (lk (ks.map fun k=>(k,lk t k)) k) _
    by_cases hk:k∈ks
    · rw [hj];exact h k hk
    · have:∀ (ks:List Nat),k ∉ ks→lk (ks.map fun k=>(k,lk t k)) k=.junk:=by
        intro ks;induction ks with
        | nil=>intro _;rfl
        | cons m ms ih =>
          intro hm
          simp only [List.mem_cons,not_or] at hm
          simp only [List.map_cons,lk]
          have:¬ m=k:=fun e=>hm.1 e.symm
          simp only [this,if_false]
          exact ih hm.2
      rw [this ks hk];trivial
theorem eff_congr {op:AOp} {t t':List (Nat × AV)} {h:Heap} {K:AV→Heap→Prop} (he:∀ k∈op.slots,lk t k=lk t' k) (hs:op.eff P ⟨t,h⟩ K):op.eff P ⟨t',h⟩ K:=by
  cases op
  case callF f args =>
    obtain⟨v,h',h1,h2⟩:=hs
    simp only [AOp.slots] at he
    refine⟨v,h',?_,h2⟩
    show ACalls P f (args.map (AOpd.ev t')) h _
    rw [← evs_congr he];exact h1
  case callV f args =>
    simp only [AOp.slots,List.mem_append] at he
    simp only [AOp.eff] at hs ⊢
    rw [← ev_congr (x:=f) (fun k hk=>he k (.inl hk)),← evs_congr (xs:=args) (fun k hk=>he k (.inr hk))]
    exact hs
  case bad=>exact hs
  all_goals exact sem_congr he hs
theorem sem_eff {op:AOp} {s:St} {K:AV→Heap→Prop} (hc:op.cls≠3) (h:op.sem (AOpd.ev s.t) s.h K):op.eff P s K:=by
  cases op <;> first|exact h|(simp [AOp.cls] at hc;done)
theorem rel_take {σ:Sg} {m:Nat} {v:AV} {x:Value} (hs:v.sc m=true) (h:Rel σ v x) (hm:m≤σ.length):Rel (σ.take m) v x:=by
  have h1:=rel_ren (σ:=σ) (ρ:=id) v x hs (by rw [ren_id (ρ:=id) (m:=m) (fun _ _=>rfl) v hs];exact h)
  have:sgOf σ id m=σ.take m:=by
    apply List.ext_getElem?
    intro i
    rw [List.getElem?_take]
    split
    · rename_i hi
      rw [sgOf_get hi]
      have:i<σ.length:=by omega
      simp [List.getD,this]
    · rename_i hi
      rw [List.getElem?_eq_none]
      simp [sgOf];omega
  rw [← this];exact h1
theorem sgOf_take {σ:Sg} {m:Nat} (hm:m≤σ.length):sgOf σ id m=σ.take m:=by
  apply List.ext_getElem?
  intro i
  rw [List.getElem?_take]
  split
  · rename_i hi
    rw [sgOf_get hi]
    have:i<σ.length:=by omega
    simp [List.getD,this]
  · rename_i hi
    rw [List.getElem?_eq_none]
    simp [sgOf];omega
theorem ook_take {σ:Sg} {m:Nat} {x:OObj} {o:Option Obj} (hs:x.sc m=true) (h:OOK P σ x o) (hm:m≤σ.length):OOK P (σ.take m) x o:=by
  have h1:=ook_ren (P:=P) (σ:=σ) (ρ:=id) x o hs (by rw [oren_id (ρ:=id) (m:=m) (fun _ _=>rfl) x hs];exact h)
  rw [← sgOf_take hm];exact h1
theorem HeapOK.cut {B:Nat} {σ:Sg} {h g:Heap} {w:World} (k:HeapOK P B σ (h++g) w) (hc:Closed h):HeapOK P B (σ.take h.length) h w:=by
  have hle:h.length≤σ.length:=by rw [k.len];simp
  have geth:∀ (i:Nat) (o:AObj),h[i]?=some o→(h++g)[i]?=some o:=fun i o hi=>by rw [List.getElem?_append_left (get_some_lt hi)];exact hi
  have gets:∀ (i:Nat) (l:Option Loc),(σ.take h.length)[i]?=some l→σ[i]?=some l:=fun i l hi=>by
    rw [List.getElem?_take] at hi;split at hi
    · exact hi
    · cases hi
  refine⟨by simp;omega,k.low,?_,?_⟩
  · intro i o l hi hl
    have:=k.obj i o l (geth i o hi) (gets i l hl)
    have hsc:=hc i o hi
    cases o with
    | dead=>trivial
    | other x =>
      cases l with
      | none=>exact this
      | some l =>
        obtain⟨h0,h1,h2,h3⟩:=this
        exact⟨h0,h1,h2,ook_take hsc h3 hle⟩
    | cells vs own =>
      cases l with
      | none=>exact this
      | some l =>
        obtain⟨h0,h1,h2⟩:=this
        refine⟨h0,fun j v hj=>?_,h2⟩
        obtain⟨x,hx1,hx2⟩:=h1 j v hj
        refine⟨x,hx1,rel_take ?_ hx2 hle⟩
        have:∀ (vs:List AV),scL h.length vs=true→∀ (j:Nat) (v:AV),vs[j]?=some v→v.sc h.length=true:=by
          intro vs;induction vs with
          | nil=>intro _ j v hj;simp at hj
          | cons u vs ih =>
            intro hs j v hj
            simp only [scL,Bool.and_eq_true] at hs
            cases j with
            | zero=>simp only [List.getElem?_cons_zero,Option.some.injEq] at hj;subst hj;exact hs.1
            | succ j=>exact ih hs.2 j v (by simpa using hj)
        exact this vs hsc j v hj
  · intro i j oi oj li lj hi hj ho hv hli hlj hne
    exact k.uniq i j oi oj li lj (geth i oi hi) (geth j oj hj) ho hv (gets _ _ hli) (gets _ _ hlj) hne
theorem Grow.cut {σ σ':Sg} {h g g':Heap} {w w':World} (k:Grow σ (h++g) w σ' (h++g') w') (hg:∀ (i:Nat) (o:AObj),g[i]?=some o→o=.dead) (hs:∀ i,i<h.length→σ'[i]?=σ[i]?) (hl:h.length≤σ.length) :
    Grow (σ.take h.length) h w (σ'.take h.length) h w':=by
  have back:∀ (i:Nat) (o:AObj),(h++g)[i]?=some o→o.live=true→i<h.length∧h[i]?=some o:=by
    intro i o hi hv
    rcases Nat.lt_or_ge i h.length with h'|h'
    · rw [List.getElem?_append_left h'] at hi;exact⟨h',hi⟩
    · rw [List.getElem?_append_right h'] at hi
      have:=hg _ _ hi
      subst this;simp [AObj.live] at hv
  have tk:∀ i,i<h.length→(σ.take h.length)[i]?=σ[i]?:=fun i hi=>by rw [List.getElem?_take,if_pos hi]
  have tk':∀ i,i<h.length→(σ'.take h.length)[i]?=σ'[i]?:=fun i hi=>by rw [List.getElem?_take,if_pos hi]
  have own_live:∀ (o:AObj),o.isOwn=true→o.live=true:=fun o ho=>by cases o <;> simp_all [AObj.isOwn,AObj.live]
  refine⟨k.os,k.tape,k.output,k.size,?_,?_,?_,k.ctl⟩
  · intro b hb hno
    refine k.frame b hb fun i o l h1 h2 h3=>?_
    obtain⟨g1,g2⟩:=back i o h1 (own_live o h2)
    exact hno i o l g2 h2 (by rw [tk i g1];exact h3)
  · intro i o l h1 h2 h3
    have hi:=get_some_lt h1
    rw [tk' i hi,hs i hi] at h3
    exact .inr ⟨i,o,l,h1,h2,by rw [tk i hi];exact h3,rfl⟩
  · intro i o l h1 h2 h3
    have hi:=get_some_lt h1
    rw [tk' i hi,hs i hi] at h3
    exact .inr ⟨i,o,l,h1,h2,by rw [tk i hi];exact h3,rfl⟩
end
end Go.Abs
/- A region in an order that it draws: its steps. -/
namespace Go.Abs
open Go.RowKit
theorem Ext.take {σ σ':Sg} (h:Ext σ σ') (m:Nat):Ext (σ.take m) (σ'.take m):=by
  refine⟨by have:=h.1;simp;omega,fun i l hi=>?_⟩
  rw [List.getElem?_take] at hi ⊢
  split at hi
  · rename_i him;rw [if_pos him];exact h.2 i l hi
  · cases hi
def Pend (c:Cert) (B:Nat) (σ:Sg) (w0 w:World) (o:AO) (i:Nat):Prop :=
  o.op.cls=2∧∃ cs l ob,c.hp (i+1)=c.hp i++[MObj cs]∧σ[pid c i]?=some (some l)∧l.base=0∧w.heap[l.blk]?=some ob ∧
    MRel (σ.take (pid c i)) cs ob l.tot∧B≤l.blk∧w0.heap.size≤l.blk
structure Inv (P:Program) (rnd:Rn) (c:Cert) (al:List AO) (t0:List (Nat × AV)) (B n0 sz:Nat) (σ0:Sg) (h0:Heap) (w0:World) (D:List Nat) (q:Nat) (σ:Sg) (w:World) (a:Act):Prop where
  qle:q≤al.length
  len:(c.hp q).length≤σ.length
  up:σ.length≤(c.hp al.length).length
  hk:HeapOK P B (σ.take (c.hp q).length) (c.hp q) w
  gr:Grow σ0 h0 w0 (σ.take (c.hp q).length) (c.hp q) w
  ag:Agree n0 σ0 σ
  before:∀ (k:Nat) (o:AO),k<q→al[k]?=some o→c.HR o.op k→k∈D
  pend:∀ (i:Nat) (o:AO),i∈D→q≤i→al[i]?=some o→c.HR o.op i→Pend c B σ w0 w o i
  free:∀ (j:Nat) (l:Loc),(c.hp q).length≤j→σ[j]?=some (some l)→∃ (i:Nat) (o:AO),i∈D∧q≤i∧al[i]?=some o∧c.HR o.op i∧j=pid c i
  away:∀ (i:Nat) (o:AO) (l:Loc),i∈D→q≤i→al[i]?=some o→c.HR o.op i→σ[pid c i]?=some (some l) →
    ∀ (j:Nat) (ob:AObj) (m:Loc),(c.hp q)[j]?=some ob→ob.live=true→σ[j]?=some (some m)→m.blk≠l.blk
  apart:∀ (i i':Nat) (o o':AO) (l l':Loc),i∈D→i'∈D→q≤i→q≤i'→al[i]?=some o→al[i']?=some o'→c.HR o.op i→c.HR o'.op i'→i≠i' →
    σ[pid c i]?=some (some l)→σ[pid c i']?=some (some l')→l.blk≠l'.blk
  tok:TOKD c al t0 σ D a
  defers:Kept rnd a w
  size:a.tmps.size=sz
section
variable {P:Program} {rnd:Rn} {al:List AO} {c:Cert} {t0:List (Nat × AV)} {B n0 sz:Nat} {σ0:Sg} {h0:Heap} {w0:World} {D:List Nat} {q:Nat} {σ:Sg} {w:World} {a:Act}
theorem take_get {σ:Sg} {m j:Nat} (h:j<m):(σ.take m)[j]?=σ[j]?:=by rw [List.getElem?_take,if_pos h]
theorem Inv.advance (hruns:∀ (j:Nat) (o:AO),al[j]?=some o→c.Runs P o j) (iv:Inv P rnd c al t0 B n0 sz σ0 h0 w0 D q σ w a) {o:AO} (ho:al[q]?=some o) (h:c.HR o.op q→q∈D) :
    Inv P rnd c al t0 B n0 sz σ0 h0 w0 D (q+1) σ w a:=by
  have hlt:=get_some_lt ho
  by_cases hHR:c.HR o.op q
  · have hqD:=h hHR
    obtain⟨hcls,cs,l,ob0,p1,p2,p3,p4,p6,p7,p8⟩:=iv.pend q o hqD (Nat.le_refl _) ho hHR
    have hlen1:(c.hp (q+1)).length=(c.hp q).length+1:=by rw [p1];simp
    have htake:σ.take (c.hp (q+1)).length=σ.take (c.hp q).length++[some l]:=by
      rw [hlen1,List.take_add_one]
      have:σ[(c.hp q).length]?=some (some l):=p2
      rw [this];rfl
    have hold:∀ (j:Nat) (m:Loc),(σ.take (c.hp q).length)[j]?=some (some m)→σ[j]?=some (some m):=fun j m hj=>by
      rw [List.getElem?_take] at hj;split at hj
      · exact hj
      · cases hj
    refine⟨hlt,?_,iv.up,?_,?_,iv.ag,?_,?_,?_,?_,?_,iv.tok,iv.defers,iv.size⟩
    · rw [hlen1];exact get_some_lt p2
    · rw [htake,p1]
      refine iv.hk.adopt p4 p3 (MRel.mono (Ext.app _ _) p6) p7 ?_
      intro j ob m hj hob hm
      exact iv.away q o l hqD (Nat.le_refl _) ho hHR p2 j ob m hj hob (hold j m hm)
    · rw [htake,p1]
      refine⟨iv.gr.os,iv.gr.tape,iv.gr.output,iv.gr.size,iv.gr.frame,?_,?_,iv.gr.ctl⟩ <;>
      · intro j oj lj h1 h2 h3
        rcases append_cases h1 with⟨g1,g2⟩|⟨g1,g2⟩
        · rw [List.getElem?_append_left (by rw [iv.hk.len];exact g1)] at h3
          first|exact iv.gr.owns j oj lj g2 h2 h3|exact iv.gr.lives j oj lj g2 h2 h3
        · subst g1
          rw [← iv.hk.len] at h3;simp at h3;subst h3
          exact .inl p8
    · intro k ok hk hok hkr
      rcases Nat.lt_or_ge k q with hkq|hkq
      · exact iv.before k ok hkq hok hkr
      · have:k=q:=by omega
        subst this;exact hqD
    · intro i oi hi hqi hoi hir
      exact iv.pend i oi hi (by omega) hoi hir
    · intro j m hj hm
      obtain⟨i,oi,g1,g2,g3,g4,g5⟩:=iv.free j m (by omega) hm
      refine⟨i,oi,g1,?_,g3,g4,g5⟩
      rcases Nat.lt_or_ge q i with hqi|hqi
      · exact hqi
      · have:i=q:=by omega
        subst this
        unfold pid at g5;omega
    · intro i oi li hi hqi hoi hir hli j ob m hj hob hm
      rw [p1] at hj
      rcases append_cases hj with⟨g1,g2⟩|⟨g1,g2⟩
      · exact iv.away i oi li hi (by omega) hoi hir hli j ob m g2 hob hm
      · subst g1
        have e1:σ[(c.hp q).length]?=some (some l):=p2
        rw [e1] at hm;simp only [Option.some.injEq] at hm;subst hm
        exact iv.apart q i o oi l li hqD hi (Nat.le_refl _) (by omega) ho hoi hHR hir (by omega) p2 hli
    · intro i i' oi oi' li li' a1 a2 a3 a4
      exact iv.apart i i' oi oi' li li' a1 a2 (by omega) (by omega)
  · have e:=hp_quiet (hruns q o ho) hHR
    refine⟨hlt,by rw [e];exact iv.len,iv.up,by rw [e];exact iv.hk,by rw [e];exact iv.gr,iv.ag,?_,?_,?_,?_,?_,iv.tok,iv.defers,iv.size⟩
    · intro k ok hk hok hkr
      rcases Nat.lt_or_ge k q with hkq|hkq
      · exact iv.before k ok hkq hok hkr
      · have:k=q:=by omega
        subst this
        rw [ho] at hok;simp only [Option.some.injEq] at hok;subst hok
        exact (hHR hkr).elim
    · intro i oi hi hqi hoi hir
      exact iv.pend i oi hi (by omega) hoi hir
    · intro j m hj hm
      rw [e] at hj
      obtain⟨i,oi,g1,g2,g3,g4,g5⟩:=iv.free j m hj hm
      refine⟨i,oi,g1,?_,g3,g4,g5⟩
      rcases Nat.lt_or_ge q i with hqi|hqi
      · exact hqi
      · have:i=q:=by omega
        subst this
        rw [ho] at g3;simp only [Option.some.injEq] at g3;subst g3
        exact (hHR g4).elim
    · intro i oi li hi hqi hoi hir hli j ob m hj hob hm
      rw [e] at hj
      exact iv.away i oi li hi (by omega) hoi hir hli j ob m hj hob hm
    · intro i i' oi oi' li li' a1 a2 a3 a4
      exact iv.apart i i' oi oi' li li' a1 a2 (by omega) (by omega)
theorem Inv.advance_to (hruns:∀ (j:Nat) (o:AO),al[j]?=some o→c.Runs P o j):∀ (n:Nat) {q:Nat},Inv P rnd c al t0 B n0 sz σ0 h0 w0 D q σ w a→q+n≤al.length →
    (∀ (k:Nat) (o:AO),q≤k→k<q+n→al[k]?=some o→c.HR o.op k→k∈D)→Inv P rnd c al t0 B n0 sz σ0 h0 w0 D (q+n) σ w a
  | 0,_,iv,_,_=>iv
  | n+1,q,iv,hle,h=>by
    have hq:al[q]?=some (al[q]'(by omega)):=by simp
    have:=iv.advance hruns hq (fun hr=>h q _ (Nat.le_refl _) (by omega) hq hr)
    have:=Inv.advance_to hruns n this (by omega) (fun k o h1 h2=>h k o (by omega) (by omega))
    rw [show q+(n+1)=q+1+n by omega];exact this
theorem Inv.normal (hruns:∀ (j:Nat) (o:AO),al[j]?=some o→c.Runs P o j) (iv:Inv P rnd c al t0 B n0 sz σ0 h0 w0 D q σ w a) :
    ∃ q',Inv P rnd c al t0 B n0 sz σ0 h0 w0 D q' σ w a∧(q'=al.length∨∃ o,al[q']?=some o∧c.HR o.op q'∧q' ∉ D):=by
  have key:∀ (m q:Nat),al.length-q=m→Inv P rnd c al t0 B n0 sz σ0 h0 w0 D q σ w a→∃ q',Inv P rnd c al t0 B n0 sz σ0 h0 w0 D q' σ w a∧(q'=al.length∨∃ o,al[q']?=some o∧c.HR o.op q'∧q' ∉ D):=by
    intro m
    induction m with
    | zero=>intro q hm iv;exact⟨q,iv,.inl (by have:=iv.qle;omega)⟩
    | succ m ih =>
      intro q hm iv
      have hlt:q<al.length:=by omega
      have ho:al[q]?=some al[q]:=by simp
      by_cases hH:c.HR (al[q]).op q∧q ∉ D
      · exact⟨q,iv,.inr ⟨al[q],ho,hH⟩⟩
      · exact ih (q+1) (by omega) (iv.advance hruns ho (fun hr=>Classical.byContradiction fun hn=>hH ⟨hr,hn⟩))
  exact key _ q rfl iv
theorem Inv.padded (iv:Inv P rnd c al t0 B n0 sz σ0 h0 w0 D q σ w a):HeapOK P B σ (c.hp q++List.replicate (σ.drop (c.hp q).length).length .dead) w:=by
  have:=iv.hk.pad (σ.drop (c.hp q).length)
  rwa [List.take_append_drop] at this
theorem rep_dead {n i:Nat} {o:AObj} (h:(List.replicate n AObj.dead)[i]?=some o):o=.dead:=by
  rw [List.getElem?_replicate] at h
  split at h
  · simp only [Option.some.injEq] at h;exact h.symm
  · cases h
theorem Inv.unowned (iv:Inv P rnd c al t0 B n0 sz σ0 h0 w0 D q σ w a) {i:Nat} {o:AO} {l:Loc} (hi:i∈D) (hq:q≤i) (ho:al[i]?=some o) (hr:c.HR o.op i) (hl:σ[pid c i]?=some (some l)) :
    ∀ (j:Nat) (ob:AObj) (m:Loc),(c.hp q++List.replicate (σ.drop (c.hp q).length).length AObj.dead)[j]?=some ob→ob.isOwn=true→σ[j]?=some (some m)→m.blk≠l.blk:=by
  intro j ob m hj hob hm
  rcases Nat.lt_or_ge j (c.hp q).length with h'|h'
  · rw [List.getElem?_append_left h'] at hj
    exact iv.away i o l hi hq ho hr hl j ob m hj (by cases ob <;> simp_all [AObj.isOwn,AObj.live]) hm
  · rw [List.getElem?_append_right h'] at hj
    have:=rep_dead hj
    subst this;simp [AObj.isOwn] at hob
theorem Inv.quiet (iv:Inv P rnd c al t0 B n0 sz σ0 h0 w0 D q σ w a) {i:Nat} {o:AO} (ho:al[i]?=some o) (hn:¬ c.HR o.op i) {w':World} {a':Act}
    (hk':HeapOK P B σ (c.hp q++List.replicate (σ.drop (c.hp q).length).length .dead) w')
    (hg:Grow σ (c.hp q++List.replicate (σ.drop (c.hp q).length).length .dead) w σ (c.hp q++List.replicate (σ.drop (c.hp q).length).length .dead) w')
    (htok:TOKD c al t0 σ (D++[i]) a') (hd:Kept rnd a' w') (hs:a'.tmps.size=sz):Inv P rnd c al t0 B n0 sz σ0 h0 w0 (D++[i]) q σ w' a':=by
  have mem:∀ (j:Nat) (oj:AO),j∈D++[i]→al[j]?=some oj→c.HR oj.op j→j∈D:=by
    intro j oj hj hoj hr
    rw [List.mem_append,List.mem_singleton] at hj
    rcases hj with hj|rfl
    · exact hj
    · rw [ho] at hoj;simp only [Option.some.injEq] at hoj;subst hoj;exact (hn hr).elim
  refine⟨iv.qle,iv.len,iv.up,hk'.cut iv.hk.closed,?_,iv.ag,?_,?_,?_,?_,?_,htok,hd,hs⟩
  · exact iv.gr.trans (hg.cut (fun _ _ h=>rep_dead h) (fun _ _=>rfl) iv.len)
  · intro k ok hk hok hkr;exact List.mem_append_left _ (iv.before k ok hk hok hkr)
  · intro j oj hj hqj hoj hr
    obtain⟨g1,cs,l,ob0,p1,p2,p3,p4,p6,p7,p8⟩:=iv.pend j oj (mem j oj hj hoj hr) hqj hoj hr
    refine⟨g1,cs,l,ob0,p1,p2,p3,?_,p6,p7,p8⟩
    rw [hg.frame l.blk (Array.getElem?_eq_some_iff.1 p4).1 (iv.unowned (mem j oj hj hoj hr) hqj hoj hr p2)]
    exact p4
  · intro j l hj hl
    obtain⟨k,ok,k1,k2⟩:=iv.free j l hj hl
    exact⟨k,ok,List.mem_append_left _ k1,k2⟩
  · intro j oj l hj hqj hoj hr;exact iv.away j oj l (mem j oj hj hoj hr) hqj hoj hr
  · intro j j' oj oj' l l' hj hj' b1 b2 b3 b4 b5 b6;exact iv.apart j j' oj oj' l l' (mem j oj hj b3 b5) (mem j' oj' hj' b4 b6) b1 b2 b3 b4 b5 b6
def place (σ:Sg) (p:Nat) (l:Loc):Sg:=(List.range (max σ.length (p+1))).map fun j=>if j=p then some l else (σ[j]?).getD none
theorem place_len (σ:Sg) (p:Nat) (l:Loc):(place σ p l).length=max σ.length (p+1):=by simp [place]
theorem place_at (σ:Sg) (p:Nat) (l:Loc):(place σ p l)[p]?=some (some l):=by
  unfold place
  rw [List.getElem?_map,List.getElem?_range (by omega)]
  simp
theorem place_ne (σ:Sg) {p j:Nat} (l:Loc) (h:j≠p) (hj:j<σ.length):(place σ p l)[j]?=σ[j]?:=by
  unfold place
  rw [List.getElem?_map,List.getElem?_range (by omega)]
  simp [h,hj]
theorem place_some {σ:Sg} {p j:Nat} {l m:Loc} (h:(place σ p l)[j]?=some (some m)):j=p∧m=l∨j≠p∧σ[j]?=some (some m):=by
  have hj:=get_some_lt h
  rw [place_len] at hj
  unfold place at h
  rw [List.getElem?_map,List.getElem?_range hj] at h
  simp only [Option.map_some,Option.some.injEq] at h
  by_cases hp:j=p
  · subst hp;simp only [if_true,Option.some.injEq] at h;exact .inl ⟨rfl,h.symm⟩
  · simp only [hp,if_false] at h
    refine .inr ⟨hp,?_⟩
    cases hσ:σ[j]? with
    | none=>rw [hσ] at h;cases h
    | some x=>rw [hσ] at h;simp only [Option.getD_some] at h;rw [h]
theorem pid_inj (hruns:∀ (j:Nat) (o:AO),al[j]?=some o→c.Runs P o j) {i j:Nat} {oi oj:AO} (hi:al[i]?=some oi) (hj:al[j]?=some oj) (ci:oi.op.cls=2) (cj:oj.op.cls=2) (si:c.sk i=false) (sj:c.sk j=false)
    (h:pid c i=pid c j):i=j:=by
  have key:∀ {i j:Nat} {oi oj:AO},al[i]?=some oi→al[j]?=some oj→oi.op.cls=2→c.sk i=false→i<j→pid c i<pid c j:=by
    intro i j oi oj hi hj ci si hlt
    obtain⟨cs,f,_,_,g3,_⟩:=made_hp (hruns i oi hi) ci si
    have h1:=hp_mono hruns (show i+1≤j by omega) (by have:=get_some_lt hj;omega)
    rw [g3] at h1
    unfold pid
    simp at h1;omega
  rcases Nat.lt_trichotomy i j with h'|h'|h'
  · have:=key hi hj ci si h';omega
  · exact h'
  · have:=key hj hi cj sj h';omega
theorem Inv.make (hruns:∀ (j:Nat) (o:AO),al[j]?=some o→c.Runs P o j) (iv:Inv P rnd c al t0 B n0 sz σ0 h0 w0 D q σ w a) {i:Nat} {o:AO} (ho:al[i]?=some o) (hr:c.HR o.op i) (hcls:o.op.cls=2) (hD:i ∉ D) (hqi:q≤i)
    (hn0:n0≤(c.hp q).length) {cs:Option (List AV)} {ob:Obj} {tot:Nat} (hp:c.hp (i+1)=c.hp i++[MObj cs]) (hrel:MRel (σ.take (pid c i)) cs ob tot) :
    Ext σ (place σ (pid c i) ⟨w.heap.size,0,tot⟩)∧∀ (a':Act),TOKD c al t0 (place σ (pid c i) ⟨w.heap.size,0,tot⟩) (D++[i]) a'→Kept rnd a' (w.alloc ob)→a'.tmps.size=sz→Inv P rnd c al t0 B n0 sz σ0 h0 w0 (D++[i]) q (place σ (pid c i) ⟨w.heap.size,0,tot⟩) (w.alloc ob) a':=by
  have hlt:=get_some_lt ho
  have hpq:(c.hp q).length≤pid c i:=hp_mono hruns hqi (by omega)
  have hnew:∀ (l:Loc),σ[pid c i]?≠some (some l):=by
    intro l hl
    obtain⟨j,oj,j1,j2,j3,j4,j5⟩:=iv.free (pid c i) l hpq hl
    have hc2:=(iv.pend j oj j1 j2 j3 j4).1
    have:=pid_inj hruns ho j3 hcls hc2 hr.2 j4.2 j5
    subst this;exact hD j1
  have hext:Ext σ (place σ (pid c i) ⟨w.heap.size,0,tot⟩):=by
    refine⟨by rw [place_len];omega,fun j l hj=>?_⟩
    have hne:j≠pid c i:=fun e=>hnew l (e ▸ hj)
    rw [place_ne σ _ hne (get_some_lt hj)];exact hj
  have htk:∀ m,m≤pid c i→m≤σ.length→(place σ (pid c i) ⟨w.heap.size,0,tot⟩).take m=σ.take m:=by
    intro m hm hm'
    apply List.ext_getElem?
    intro j
    rw [List.getElem?_take,List.getElem?_take]
    split
    · rename_i hj
      exact place_ne σ _ (by omega) (by omega)
    · rfl
  have htake:=htk _ hpq iv.len
  have hup:(c.hp (i+1)).length=pid c i+1:=by rw [hp];simp [pid]
  have hupn:=hp_mono hruns (show i+1≤al.length by omega) (Nat.le_refl _)
  have hblk:∀ (j:Nat) (ob:AObj) (m:Loc),(c.hp q)[j]?=some ob→ob.live=true→σ[j]?=some (some m)→m.blk<w.heap.size:=by
    intro j ob m hj hob hm
    exact iv.hk.blk_lt hj (by rw [take_get (get_some_lt hj)];exact hm) hob
  refine⟨hext,fun a' htok hd hs=>⟨iv.qle,by rw [place_len];have:=iv.len;omega,by rw [place_len];have:=iv.up;omega,?_,?_,?_,?_,?_,?_,?_,?_,htok,hd,hs⟩⟩
  · rw [htake]
    refine⟨iv.hk.len,by simp;have:=iv.hk.low;omega,fun j ob l hj hl=>(iv.hk.obj j ob l hj hl).world (by simp) (fun l' e' hv=>?_),iv.hk.uniq⟩
    subst e'
    exact Below.heap_alloc _ _ _ (iv.hk.blk_lt hj hl hv)
  · rw [htake];exact iv.gr.trans (Grow.beside _ _ _ _)
  · intro j hj
    rw [place_ne σ _ (by omega) (by have:=iv.len;omega)];exact iv.ag j hj
  · intro k ok hk hok hkr;exact List.mem_append_left _ (iv.before k ok hk hok hkr)
  · intro j oj hj hqj hoj hjr
    rw [List.mem_append,List.mem_singleton] at hj
    rcases hj with hj|rfl
    · obtain⟨g1,cs',l,ob0,p1,p2,p3,p4,p6,p7,p8⟩:=iv.pend j oj hj hqj hoj hjr
      refine⟨g1,cs',l,ob0,p1,hext.2 _ _ p2,p3,?_,MRel.mono (hext.take _) p6,p7,p8⟩
      rw [Below.heap_alloc _ _ _ (Array.getElem?_eq_some_iff.1 p4).1];exact p4
    · rw [ho] at hoj;simp only [Option.some.injEq] at hoj;subst hoj
      refine⟨hcls,cs,⟨w.heap.size,0,tot⟩,ob,hp,place_at _ _ _,rfl,?_,MRel.mono (hext.take _) hrel,iv.hk.low,iv.gr.size⟩
      show (w.heap.push _)[w.heap.size]?=_
      simp
  · intro j l hj hl
    rcases place_some hl with⟨h1,_⟩|⟨h1,h2⟩
    · exact⟨i,o,by simp,hqi,ho,hr,h1⟩
    · obtain⟨k,ok,k1,k2⟩:=iv.free j l hj h2
      exact⟨k,ok,List.mem_append_left _ k1,k2⟩
  · intro j oj l hj hqj hoj hjr hl k ob m hk hob hm
    have hkl:=get_some_lt hk
    rw [place_ne σ _ (by omega) (by have:=iv.len;omega)] at hm
    rw [List.mem_append,List.mem_singleton] at hj
    rcases place_some hl with⟨h1,h2⟩|⟨h1,h2⟩
    · have:=hblk k ob m hk hob hm
      rw [h2];simp;omega
    · rcases hj with hj|rfl
      · exact iv.away j oj l hj hqj hoj hjr h2 k ob m hk hob hm
      · exact (h1 rfl).elim
  · intro j j' oj oj' l l' hj hj' hqj hqj' hoj hoj' hjr hjr' hne hl hl'
    rw [List.mem_append,List.mem_singleton] at hj hj'
    have old:∀ (k:Nat) (ok:AO) (m:Loc),k∈D→q≤k→al[k]?=some ok→c.HR ok.op k→σ[pid c k]?=some (some m)→m.blk<w.heap.size:=by
      intro k ok m k1 k2 k3 k4 k5
      obtain⟨g1,cs',l,ob0,p1,p2,p3,p4,_⟩:=iv.pend k ok k1 k2 k3 k4
      rw [p2] at k5;simp only [Option.some.injEq] at k5;subst k5
      exact (Array.getElem?_eq_some_iff.1 p4).1
    have conv:∀ (k:Nat) (ok:AO) (m:Loc),k∈D→q≤k→al[k]?=some ok→c.HR ok.op k→(place σ (pid c i) ⟨w.heap.size,0,tot⟩)[pid c k]?=some (some m)→σ[pid c k]?=some (some m):=by
      intro k ok m k1 k2 k3 k4 k5
      obtain⟨g1,cs',l,ob0,p1,p2,p3,p4,_⟩:=iv.pend k ok k1 k2 k3 k4
      have:=hext.2 _ _ p2
      rw [this] at k5;simp only [Option.some.injEq] at k5;subst k5;exact p2
    rcases hj with hj|rfl <;> rcases hj' with hj'|rfl
    · exact iv.apart j j' oj oj' l l' hj hj' hqj hqj' hoj hoj' hjr hjr' hne (conv j oj l hj hqj hoj hjr hl) (conv j' oj' l' hj' hqj' hoj' hjr' hl')
    · have h1:=old j oj l hj hqj hoj hjr (conv j oj l hj hqj hoj hjr hl)
      rw [place_at] at hl';simp only [Option.some.injEq] at hl';subst hl'
      simp;omega
    · have h1:=old j' oj' l' hj' hqj' hoj' hjr' (conv j' oj' l' hj' hqj' hoj' hjr' hl')
      rw [place_at] at hl;simp only [Option.some.injEq] at hl;subst hl
      simp;omega
    · exact (hne rfl).elim
theorem Inv.effect (hruns:∀ (j:Nat) (o:AO),al[j]?=some o→c.Runs P o j) {i:Nat} (iv:Inv P rnd c al t0 B n0 sz σ0 h0 w0 D i σ w a) {o:AO} (ho:al[i]?=some o) (hD:i ∉ D)
    (hn0:n0≤(c.hp i).length) {τ:Sg} {w':World} (hk':HeapOK P B (σ.take (c.hp i).length++τ) (c.hp (i+1)) w') (hg:Grow (σ.take (c.hp i).length) (c.hp i) w (σ.take (c.hp i).length++τ) (c.hp (i+1)) w') :
    ∃ σ',Ext σ σ'∧Ext (σ.take (c.hp i).length++τ) σ'∧∀ (a':Act),TOKD c al t0 σ' (D++[i]) a'→Kept rnd a' w'→a'.tmps.size=sz→Inv P rnd c al t0 B n0 sz σ0 h0 w0 (D++[i]) (i+1) σ' w' a':=by
  have hlt:=get_some_lt ho
  have hL:(σ.take (c.hp i).length++τ).length=(c.hp (i+1)).length:=hk'.len
  have hmono:=hp_step (hruns i o ho)
  have htl:(σ.take (c.hp i).length).length=(c.hp i).length:=by have:=iv.len;simp;omega
  have later:∀ (j:Nat) (oj:AO),j∈D→i≤j→al[j]?=some oj→i+1≤j∧(c.hp (i+1)).length≤pid c j:=by
    intro j oj hj hij hoj
    have hne:j≠i:=fun e=>hD (e ▸ hj)
    have h1:i+1≤j:=by omega
    exact⟨h1,hp_mono hruns h1 (by have:=get_some_lt hoj;omega)⟩
  have hhi:∀ j,(c.hp (i+1)).length≤j→((σ.take (c.hp i).length++τ)++σ.drop (c.hp (i+1)).length)[j]?=σ[j]?:=by
    intro j hj
    rw [List.getElem?_append_right (by omega),hL,List.getElem?_drop]
    congr 1;omega
  have hlo:∀ j,j<(c.hp (i+1)).length→((σ.take (c.hp i).length++τ)++σ.drop (c.hp (i+1)).length)[j]?=(σ.take (c.hp i).length++τ)[j]?:=fun j hj=>by
    rw [List.getElem?_append_left (by omega)]
  have hlo':∀ j,j<(c.hp i).length→((σ.take (c.hp i).length++τ)++σ.drop (c.hp (i+1)).length)[j]?=σ[j]?:=fun j hj=>by
    rw [hlo j (by omega),List.getElem?_append_left (by omega),take_get hj]
  have hext:Ext σ ((σ.take (c.hp i).length++τ)++σ.drop (c.hp (i+1)).length):=by
    refine⟨by rw [List.length_append,hL,List.length_drop];omega,fun j l hj=>?_⟩
    rcases Nat.lt_or_ge j (c.hp i).length with h'|h'
    · rw [hlo' j h'];exact hj
    · obtain⟨k,ok,k1,k2,k3,k4,k5⟩:=iv.free j l h' hj
      have:=(later k ok k1 k2 k3).2
      rw [hhi j (by omega)];exact hj
  have htake:((σ.take (c.hp i).length++τ)++σ.drop (c.hp (i+1)).length).take (c.hp (i+1)).length=σ.take (c.hp i).length++τ:=by
    rw [← hL,List.take_left]
  have hupn:=hp_mono hruns (show i+1≤al.length by omega) (Nat.le_refl _)
  refine⟨_,hext,Ext.app _ _,fun a' htok hd hs=>⟨by omega,?_,?_,?_,?_,?_,?_,?_,?_,?_,?_,htok,hd,hs⟩⟩
  · rw [List.length_append,hL];omega
  · rw [List.length_append,hL,List.length_drop];have:=iv.up;omega
  · rw [htake];exact hk'
  · rw [htake];exact iv.gr.trans hg
  · intro j hj
    rw [hlo' j (by omega)];exact iv.ag j hj
  · intro k ok hk hok hkr
    rcases Nat.lt_or_ge k i with h'|h'
    · exact List.mem_append_left _ (iv.before k ok h' hok hkr)
    · have:k=i:=by omega
      subst this;simp
  · intro j oj hj hqj hoj hjr
    rw [List.mem_append,List.mem_singleton] at hj
    rcases hj with hj|rfl
    · obtain⟨g1,cs',l,ob0,p1,p2,p3,p4,p6,p7,p8⟩:=iv.pend j oj hj (by omega) hoj hjr
      refine⟨g1,cs',l,ob0,p1,hext.2 _ _ p2,p3,?_,MRel.mono (hext.take _) p6,p7,p8⟩
      rw [hg.frame l.blk (Array.getElem?_eq_some_iff.1 p4).1 ?_]
      · exact p4
      · intro k ob m hk hob hm
        exact iv.away j oj l hj (by omega) hoj hjr p2 k ob m hk (by cases ob <;> simp_all [AObj.isOwn,AObj.live]) (by rw [take_get (get_some_lt hk)] at hm;exact hm)
    · omega
  · intro j l hj hl
    rw [hhi j hj] at hl
    obtain⟨k,ok,k1,k2,k3,k4,k5⟩:=iv.free j l (by omega) hl
    exact⟨k,ok,List.mem_append_left _ k1,(later k ok k1 k2 k3).1,k3,k4,k5⟩
  · intro j oj l hj hqj hoj hjr hl k ob m hk hob hm
    rw [List.mem_append,List.mem_singleton] at hj
    rcases hj with hj|rfl
    · have hpj:=(later j oj hj (by omega) hoj).2
      rw [hhi _ hpj] at hl
      have hkl:=get_some_lt hk
      rw [hlo k hkl] at hm
      rcases hg.lives k ob m hk hob hm with hge|⟨j2,p2,m2,q1,q2,q3,q4⟩
      · obtain⟨g1,cs',l',ob0,p1,p2,p3,p4,_⟩:=iv.pend j oj hj (by omega) hoj hjr
        rw [p2] at hl;simp only [Option.some.injEq] at hl;subst hl
        have:=(Array.getElem?_eq_some_iff.1 p4).1
        omega
      · rw [← q4]
        exact iv.away j oj l hj (by omega) hoj hjr hl j2 p2 m2 q1 q2 (by rw [take_get (get_some_lt q1)] at q3;exact q3)
    · omega
  · intro j j' oj oj' l l' hj hj' hqj hqj' hoj hoj' hjr hjr' hne hl hl'
    rw [List.mem_append,List.mem_singleton] at hj hj'
    rcases hj with hj|rfl
    · rcases hj' with hj'|rfl
      · have h1:=(later j oj hj (by omega) hoj).2
        have h2:=(later j' oj' hj' (by omega) hoj').2
        rw [hhi _ h1] at hl;rw [hhi _ h2] at hl'
        exact iv.apart j j' oj oj' l l' hj hj' (by omega) (by omega) hoj hoj' hjr hjr' hne hl hl'
      · omega
    · omega
end
end Go.Abs
/- A region that draws its order,whole. -/
namespace Go.Abs
open Go.RowKit
theorem cAO_parts {P:Program} {sz:Nat} {ops:Array Oper} {o:Oper} {ao:AO} (h:cAO P sz ops o=some ao) :
    cOp P o=some ao.op∧cguard ops o=some ao.guard∧dstOk sz o.dst=true∧ao.dst=o.dst:=by
  unfold cAO at h
  split at h
  · rename_i op g h1 h2
    split at h
    · rename_i hd
      simp only [Option.some.injEq] at h;subst h
      exact⟨h1,h2,hd,rfl⟩
    · cases h
  · cases h
theorem tmps_get {a:Act} {d:Nat} {b:Bool} (h:a.tmps.getD d undef=.bool b):a.tmps[d]?=some (.bool b):=by
  simp only [Array.getD_eq_getD_getElem?] at h
  cases hq:a.tmps[d]? with
  | none=>rw [hq] at h;cases h
  | some v=>rw [hq] at h;simp only [Option.getD_some] at h;rw [h]
theorem yielded_eq {ops:Array Oper} {tmps:Array Value} {j d:Nat} (hj:((ops[j]?).bind (·.dst))=some d):yielded ops tmps j=match tmps[d]? with|some (.bool b)=>some b|_=>none:=by
  simp only [yielded,hj,Option.bind_some]
  cases tmps[d]? with
  | none=>rfl
  | some v=>cases v <;> rfl
theorem wanted_yes {P:Program} {sz:Nat} {ops:Array Oper} {o:Oper} {ao:AO} {σ:Sg} {a:Act} {t:List (Nat × AV)} (h:cAO P sz ops o=some ao) (hr:∀ k∈ao.slots,Rel σ (lk t k) (a.tmps.getD k undef))
    (hg:ao.guard=none∨∃ g want,ao.guard=some (g,want)∧lk t g=.bool want):Region.wanted o (yielded ops a.tmps)=true:=by
  obtain⟨_,h2,_,_⟩:=cAO_parts h
  unfold cguard at h2
  unfold Region.wanted
  split at h2
  · rename_i hn;rw [hn]
  · rename_i j want hj
    rw [hj]
    split at h2
    · rename_i d hd
      simp only [Option.some.injEq] at h2
      rcases hg with hg|⟨g,want',hg,hl⟩
      · rw [hg] at h2;cases h2
      · rw [hg] at h2
        simp only [Option.some.injEq,Prod.mk.injEq] at h2
        obtain⟨rfl,rfl⟩:=h2
        have:=hr d (by simp [AO.slots,hg])
        rw [hl] at this
        simp only [Rel] at this
        simp only [yielded_eq hd,tmps_get this,beq_self_eq_true]
    · cases h2
theorem wanted_no {P:Program} {sz:Nat} {ops:Array Oper} {o:Oper} {ao:AO} {σ:Sg} {a:Act} {t:List (Nat × AV)} (h:cAO P sz ops o=some ao) (hr:∀ k∈ao.slots,Rel σ (lk t k) (a.tmps.getD k undef))
    (hg:∃ g want,ao.guard=some (g,want)∧(lk t g=.tuple []∨∃ b,lk t g=.bool b∧b≠want)):Region.wanted o (yielded ops a.tmps)=false:=by
  obtain⟨_,h2,_,_⟩:=cAO_parts h
  unfold cguard at h2
  unfold Region.wanted
  obtain⟨g,want',hg,hl⟩:=hg
  split at h2
  · rw [hg] at h2;cases h2
  · rename_i j want hj
    rw [hj]
    split at h2
    · rename_i d hd
      rw [hg] at h2
      simp only [Option.some.injEq,Prod.mk.injEq] at h2
      obtain⟨rfl,rfl⟩:=h2
      have hm:=hr d (by simp [AO.slots,hg])
      simp only [yielded_eq hd]
      rcases hl with hl|⟨b,hl,hb⟩
      · rw [hl] at hm
        obtain⟨arr,ht1,_⟩:=hm
        simp only [Array.getD_eq_getD_getElem?] at ht1
        cases hq:a.tmps[d]? with
        | none=>rfl
        | some v=>rw [hq] at ht1;simp only [Option.getD_some] at ht1;rw [ht1];rfl
      · rw [hl] at hm
        simp only [Rel] at hm
        simp [tmps_get hm,hb]
    · cases h2
theorem read_app {op:AOp} {ev:AOpd→AV} {h d:Heap} {x:AV} (hc:op.cls=1) (hs:op.sem ev h (fun v' _=>v'=x)):op.sem ev (h++d) (fun v' h'=>v'=x∧h'=h++d):=by
  have hrd:∀ (id off n:Nat) (vs:List AV),rd h id off n=some vs→rd (h++d) id off n=some vs:=by
    intro id off n vs hv
    unfold rd at hv ⊢
    split at hv
    · rename_i ws own hid
      rw [List.getElem?_append_left (get_some_lt hid),hid];exact hv
    · cases hv
  have hmap:∀ (x:AV) (es:List (AV × AV)),mapAt h x=some es→mapAt (h++d) x=some es:=by
    intro x es hm
    unfold mapAt at hm ⊢
    split at hm
    · exact hm
    · rename_i id
      split at hm
      · rename_i es' hi
        simp only [List.getElem?_append_left (get_some_lt hi),hi];exact hm
      · cases hm
    · cases hm
  cases op <;> first
    | (simp [AOp.cls] at hc;done)
    | skip
  · simp only [AOp.sem] at hs ⊢
    split at hs
    · split at hs
      · rename_i v hv
        rw [hrd _ _ _ _ hv];exact⟨hs,trivial⟩
      · cases hs
    · cases hs
  · simp only [AOp.sem] at hs ⊢
    split at hs
    · split at hs
      · rename_i v hv
        rw [hrd _ _ _ _ hv];exact⟨hs,trivial⟩
      · cases hs
    · cases hs
  · simp only [AOp.sem] at hs ⊢
    refine⟨hs.1,?_⟩
    have hs:=hs.2
    split at hs
    · rename_i es hes
      rw [hmap _ _ hes]
      simp only
      revert hs
      generalize findA _ _ es=r
      intro hs
      cases r with
      | none=>exact hs.elim
      | some r =>
        cases r with
        | none=>exact⟨hs,trivial⟩
        | some n =>
          simp only at hs ⊢
          revert hs
          generalize es[n]?=p
          intro hs
          cases p with
          | none=>exact hs.elim
          | some p=>exact⟨hs,trivial⟩
    · cases hs
  · simp only [AOp.sem] at hs ⊢
    split at hs
    · rename_i es hes
      rw [hmap _ _ hes];exact⟨hs,trivial⟩
    · cases hs
  · simp only [AOp.sem] at hs ⊢
    split at hs
    · rename_i id hid
      split at hs
      · rename_i m since seen last hob
        split at hs
        · rename_i b hb
          split at hs
          · rename_i es bs c hm
            simp only [List.getElem?_append_left (get_some_lt hob),hob,hb,List.getElem?_append_left (get_some_lt hm),hm]
            refine⟨hs.1,?_⟩
            have hs:=hs.2
            split at hs
            · exact⟨hs,trivial⟩
            · cases hs
          · cases hs
        · cases hs
      · cases hs
    · cases hs
section
variable {P:Program} {rnd:Rn} {sz:Nat} {ops:Array Oper} {al:List AO} {ps:List (List Nat)} {c:Cert} {K:St→Prop} {s:St} {B n0:Nat} {σ0:Sg} {w0:World}
theorem pre_mem (hs:Static P sz ops al ps) {l:List Nat} (ht:Topo ops l):∀ (m:Nat) (p1 p2:List Nat) (i:Nat),p1.length=m→l=p1++i :: p2→∀ k∈pr ps i,k∈p1:=by
  intro m
  induction m using Nat.strongRecOn with
  | _ m ih =>
    intro p1 p2 i hm hl k hk
    have hi:i<ops.size:=ht.lt i (by rw [hl];simp)
    have hop:ops[i]?=some ops[i]:=by simp [hi]
    rcases (hs.pre i _ hop k hk).2 with⟨e,he,hb,rfl⟩|⟨e,he,hb,hke⟩
    · exact ht.deps p1 p2 i hl _ hop e he hb
    · have hin:=ht.deps p1 p2 i hl _ hop e he hb
      obtain⟨q1,q2,hq⟩:=List.append_of_mem hin
      have:=ih q1.length (by rw [← hm,hq];simp;try omega) q1 (q2++i :: p2) e.on rfl (by simp [hl,hq]) k hke
      rw [hq];exact List.mem_append_left _ this
theorem order_run (hs:Static P sz ops al ps) (g:Good P ps al 0 [] [] K s c) (hn0:n0≤s.h.length) {Q:Exit→Act→World→Prop}
    (hQ:∀ a' w',Left P rnd B n0 sz σ0 s.h w0 K a' w'→Q .normal a' w'):∀ (rest D:List Nat) (q:Nat) (σ:Sg) (w:World) (a:Act),Topo ops (D++rest)→Inv P rnd c al s.t B n0 sz σ0 s.h w0 D q σ w a→wpOpsIn (RF rnd) 0 P ops Q rest a w
  | [],D,q,σ,w,a,ht,iv=>by
    have hruns:∀ (j:Nat) (o:AO),al[j]?=some o→c.Runs P o j:=fun j o ho=>g.runs j o (Nat.zero_le _) ho
    have hall:∀ i,i<al.length→i∈D:=fun i hi=>by have:=ht.all i (by rw [← hs.len];exact hi);simpa using this
    have iv':=Inv.advance_to hruns (al.length-q) iv (by have:=iv.qle;omega) (fun k o _ _ ho _=>hall k (get_some_lt ho))
    rw [show q+(al.length-q)=al.length by have:=iv.qle;omega] at iv'
    have hfull:σ.take (c.hp al.length).length=σ:=List.take_of_length_le iv'.up
    have hk:=iv'.hk
    have hg:=iv'.gr
    rw [hfull] at hk hg
    refine hQ a w ⟨σ,⟨c.T al.length,c.hp al.length⟩,iv'.ag,⟨hk,fun k=>?_,iv'.defers,iv'.size,?_⟩,hg,g.fin⟩
    · obtain⟨t1,t2⟩:=T_lk hruns hs.dst g.T al.length (Nat.le_refl _) k
      show Rel σ (lk (c.T al.length) k) _
      rcases Classical.em (∃ (j:Nat) (oj:AO),al[j]?=some oj∧oj.dst=some k) with⟨j,oj,hj,hjk⟩|hno
      · rw [t1 j oj (get_some_lt hj) hj hjk]
        exact (iv'.tok k).1 j oj (hall j (get_some_lt hj)) hj hjk
      · rw [t2 fun m om _ hom hmk=>hno ⟨m,om,hom,hmk⟩]
        exact (iv'.tok k).2 fun m om _ hom hmk=>hno ⟨m,om,hom,hmk⟩
    · have:=hp_mono hruns (Nat.zero_le al.length) (Nat.le_refl _)
      rw [g.hp] at this
      show n0≤(c.hp al.length).length
      omega
  | i :: rest,D,q,σ,w,a,ht,iv=>by
    have hruns:∀ (j:Nat) (o:AO),al[j]?=some o→c.Runs P o j:=fun j o ho=>g.runs j o (Nat.zero_le _) ho
    have hi:i<ops.size:=ht.lt i (by simp)
    have hop:ops[i]?=some ops[i]:=by simp [hi]
    obtain⟨o,ho,hc⟩:=hs.comp i _ hop
    obtain⟨hc1,hc2,hc3,hc4⟩:=cAO_parts hc
    have hD:i ∉ D:=by
      have:=ht.nodup
      rw [List.nodup_append] at this
      intro hm
      exact this.2.2 i hm i (by simp) rfl
    have hpre:∀ k∈pr ps i,k∈D:=pre_mem hs ht D.length D rest i rfl rfl
    have hcl:∀ j∈D,∀ k∈pr ps j,k∈D:=by
      intro j hj k hk
      obtain⟨p1,p2,hp⟩:=List.append_of_mem hj
      have:=pre_mem hs ht p1.length p1 (p2++i :: rest) j rfl (by rw [hp];simp) k hk
      rw [hp];exact List.mem_append_left _ this
    have ht':Topo ops ((D++[i])++rest):=by simpa using ht
    have hop':=opnd hs hruns g.T iv.tok ho hD hcl hpre
    have hops:∀ k∈o.op.slots,Rel σ (lk (c.T i) k) (a.tmps.getD k undef):=fun k hk=>hop' k (by simp [AO.slots,hk])
    have hdsz:∀ d,o.dst=some d→d<a.tmps.size:=by
      intro d hd
      rw [iv.size]
      rw [hc4] at hd
      rw [hd] at hc3
      simpa [dstOk] using hc3
    have hput:∀ x,(a.put (ops[i]).dst x).defers=a.defers∧(a.put (ops[i]).dst x).tmps.size=sz:=by
      intro x
      cases hd:(ops[i]).dst with
      | none=>exact⟨rfl,iv.size⟩
      | some d=>exact⟨rfl,by simp only [Act.put,Array.size_setIfInBounds];exact iv.size⟩
    have hq0:(c.hp 0).length≤(c.hp q).length:=hp_mono hruns (Nat.zero_le _) iv.qle
    rw [g.hp] at hq0
    have hr:=hruns i o ho
    simp only [wpOpsIn,hop]
    rcases hr.2 with⟨hsk,hv,_,hgd⟩|⟨hsk,hgd,hcases⟩
    ·
      have hw:=wanted_no hc hop' hgd
      rw [if_neg (by rw [hw];simp)]
      refine⟨fun _ _=>trivial,?_⟩
      have htok:=iv.tok.put (x:=undef) hs.dst ho hdsz (by rw [hv];exact⟨#[],rfl,rfl⟩)
      rw [hc4] at htok
      exact order_run hs g hn0 hQ rest (D++[i]) q σ w _ ht' (iv.quiet ho (fun h=>by have:=h.2;rw [hsk] at this;cases this) iv.padded (Grow.refl _ _ _) htok (iv.defers.mono (Ctl.refl _) (hput _).1) (hput _).2)
    · have hw:=wanted_yes hc hop' hgd
      rw [if_pos hw]
      have quiet:¬ c.HR o.op i→(∀ q',Inv P rnd c al s.t B n0 sz σ0 s.h w0 D q' σ w a→o.op.sem (AOpd.ev (c.T i)) (c.hp q'++List.replicate (σ.drop (c.hp q').length).length .dead) (fun v' h'=>v'=c.v i∧h'=c.hp q'++List.replicate (σ.drop (c.hp q').length).length .dead) →
          (ops[i]).wpIn (RF rnd) 0 P a w (wpOpsIn (RF rnd) 0 P ops Q rest) Q):=by
        intro hn q' iv hsem
        have hcls3:o.op.cls≠3:=fun h=>hn ⟨by omega,hsk⟩
        have hsem':=sem_congr (onlySlots_lk (c.T i) o.op.slots) hsem
        refine op_step (t:=onlySlots (c.T i) o.op.slots) hc1 iv.padded (onlySlots_tok hops) (sem_eff hcls3 hsem') ?_
        rintro x w' τ v h' k1 k2 k3 ⟨rfl,rfl⟩
        have hτ:τ=[]:=by
          have h1:=k1.len
          have h2:=iv.padded.len
          rw [List.length_append] at h1
          exact List.eq_nil_of_length_eq_zero (by omega)
        subst hτ
        rw [List.append_nil] at k1 k2 k3
        have htok:=iv.tok.put (x:=x) hs.dst ho hdsz k2
        rw [hc4] at htok
        exact order_run hs g hn0 hQ rest (D++[i]) q' σ w' _ ht' (iv.quiet ho hn k1 k3 htok (iv.defers.mono k3.ctl (hput _).1) (hput _).2)
      rcases hcases with⟨h1,h2,h3⟩|⟨h1,h2⟩|⟨h1,h2,h3⟩|⟨h1,h2,h3,h4⟩
      · exact quiet (fun h=>by have:=h.1;omega) q iv (sem_pure h1 h3).2
      · obtain⟨q',iv',hq'⟩:=Inv.normal hruns iv
        have hread:=g.reads i o (Nat.zero_le _) ho h1 hsk q' (Nat.zero_le _) iv'.qle (by
          rcases hq' with h|⟨oq,e1,e2,e3⟩
          · exact .inl h
          · exact .inr (.inr ⟨⟨oq,e1,e2⟩,fun hm=>e3 (hpre _ hm)⟩)) (by
          intro k ok _ hk hok hkr hm
          exact hD (hcl k (iv'.before k ok hk hok hkr) i hm))
        exact quiet (fun h=>by have:=h.1;omega) q' iv' (read_app h1 hread)
      · have hHR:c.HR o.op i:=⟨by omega,hsk⟩
        have hqi:q≤i:=by
          rcases Nat.lt_or_ge i q with h|h
          · exact (hD (iv.before i o h ho hHR)).elim
          · exact h
        obtain⟨cs,f,m1,m2,m3,m4⟩:=made_hp hr h1 hsk
        have hscoped:∀ k∈o.op.slots,Rel (σ.take (pid c i)) (lk (c.T i) k) (a.tmps.getD k undef):=by
          intro k hk
          rcases Nat.lt_or_ge (pid c i) σ.length with hp|hp
          · exact rel_take (List.all_eq_true.1 m4 k hk) (hops k hk) (by omega)
          · rw [List.take_of_length_le hp];exact hops k hk
        have hm1':o.op.made (AOpd.ev (onlySlots (c.T i) o.op.slots))=some (cs,f):=by
          have he:=onlySlots_lk (c.T i) o.op.slots
          revert m1 he
          generalize o.op=op
          intro m1 he
          cases op <;> simp only [AOp.made,reduceCtorEq] at m1 ⊢
          · exact m1
          · simp only [AOp.slots] at he ⊢;rw [← ev_congr he];exact m1
          · simp only [AOp.slots] at he ⊢;rw [← fill_congr _ he];exact m1
          · simp only [AOp.slots,List.mem_append] at he ⊢;rw [← ev_congr (fun k hk=>he k (.inl hk)),← ev_congr (fun k hk=>he k (.inr hk))];exact m1
          · exact m1
        refine made_step (t:=onlySlots (c.T i) o.op.slots) hc1 h1 (onlySlots_tok hscoped) hm1' ?_
        intro x ob tot hrel hval
        obtain⟨hext,hinv⟩:=iv.make hruns ho hHR h1 hD hqi (by omega) m3 hrel
        have htok:=(iv.tok.mono hext).put (x:=x) hs.dst ho hdsz (by rw [m2];exact hval _ _ ⟨w.heap.size,0,tot⟩ (place_at _ _ _) rfl rfl rfl)
        rw [hc4] at htok
        exact order_run hs g hn0 hQ rest (D++[i]) q _ _ _ ht' (hinv _ htok (iv.defers.mono (Ctl.alloc _ _) (hput _).1) (hput _).2)
      · have hHR:c.HR o.op i:=⟨by omega,hsk⟩
        have hqi:q≤i:=by
          rcases Nat.lt_or_ge i q with h|h
          · exact (hD (iv.before i o h ho hHR)).elim
          · exact h
        have hil:=get_some_lt ho
        have iv':=Inv.advance_to hruns (i-q) iv (by omega) (fun k ok k1 k2 k3 k4=>hpre k (hs.chain k i ok o k3 ho (by omega) k4.1 h1))
        rw [show q+(i-q)=i by omega] at iv'
        have hq1:(c.hp 0).length≤(c.hp i).length:=hp_mono hruns (Nat.zero_le _) (by omega)
        rw [g.hp] at hq1
        have hscoped:∀ k∈o.op.slots,Rel (σ.take (c.hp i).length) (lk (c.T i) k) (a.tmps.getD k undef):=fun k hk =>
          rel_take (List.all_eq_true.1 h4 k hk) (hops k hk) iv'.len
        refine op_step (t:=onlySlots (c.T i) o.op.slots) hc1 iv'.hk (onlySlots_tok hscoped) (eff_congr (onlySlots_lk (c.T i) o.op.slots) h2) ?_
        rintro x w' τ v h' k1 k2 k3 ⟨rfl,rfl⟩
        obtain⟨σ',e1,e2,hinv⟩:=iv'.effect hruns ho hD (by omega) k1 k3
        have htok:=(iv'.tok.mono e1).put (x:=x) hs.dst ho hdsz (Rel.mono e2 _ _ k2)
        rw [hc4] at htok
        exact order_run hs g hn0 hQ rest (D++[i]) (i+1) _ _ _ ht' (hinv _ htok (iv.defers.mono k3.ctl (hput _).1) (hput _).2)
end
end Go.Abs
