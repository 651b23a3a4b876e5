/- From a law's contract over abstract values to the row's contract. -/
import Derived.Test.YtdocpfbfchaekaaGreatA40
import Derived.WalkKit
import Derived.OpenShut
import Derived.ShutString
import Derived.ChangeOld
import Derived.Below
import Derived.Carry
namespace Go.Abs
open Go.RowKit Go.ChangeShapes Go.WideShapes Go.ChangeAt
theorem HeapOK.start {P:Program} (w:World):HeapOK P w.heap.size [] [] w :=
  ⟨rfl,Nat.le_refl _,fun i o l h=>by simp at h,fun i j oi oj li lj h=>by simp at h⟩
def argAV (P:Program) (t:TypeId) (avs:List AV):AV:=match P.underlying t with
  | some (.struct _)|some (.array _ _)=>.agg avs
  | _=>avs.headD .junk
def shapes (P:Program) (n:Nat):List TypeId→Option (List (List QK))
  | []=>some []
  | t :: ts=>match shp P n t,shapes P n ts with
    | some k,some ks=>some (k :: ks)
    | _,_=>none
def looks (P:Program) (h:Heap):List TypeId→List (List QK)→List AV→Prop
  | [],[],r=>r=[]
  | t :: ts,k :: ks,r=>∃ avs rest,r=argAV P t avs :: rest∧lookL h k avs∧looks P h ts ks rest
  | _,_,_=>False
section
variable {H:Type} {enc:TypeId × Value→H} {P:Program} {w:World} {held:Bool} {B:Nat}
theorem rel_arg {σ:Sg} {r:Reach} {b0:Nat} {t:TypeId} {v:Value} {n:Nat} {ks:List QK} {avs:List AV} (hs:shp P n t=some ks) (hv:Value.okWide P w r b0 t v)
    (hr:RelL σ avs v.cells.toList):Rel σ (argAV P t avs) v:=by
  cases n with
  | zero=>cases hs
  | succ n =>
    simp only [shp] at hs
    have one:v.cells.toList=[v]→(argAV P t avs=avs.headD .junk)→Rel σ (argAV P t avs) v:=by
      intro h1 h2
      rw [h2]
      rw [h1] at hr
      cases avs with
      | nil=>simp [RelL] at hr
      | cons a as =>
        obtain⟨x,xs,e,h3,_⟩:=hr
        simp only [List.cons.injEq] at e
        rw [e.1];exact h3
    split at hs
    · rename_i k hu
      obtain⟨x,rfl⟩:=okWide_int hu hv
      exact one rfl (by simp only [argAV,hu])
    · rename_i hu
      obtain⟨x,rfl⟩:=okWide_bool hu hv
      exact one rfl (by simp only [argAV,hu])
    · rename_i hu
      obtain⟨x,rfl⟩:=okWide_string hu hv
      exact one rfl (by simp only [argAV,hu])
    · rename_i fs hu
      simp only [Value.okWide,hu] at hv
      obtain⟨cs,rfl,_⟩:=hv
      simp only [argAV,hu]
      exact⟨cs,rfl,hr⟩
    · rename_i e hu
      obtain⟨a,l,c,rfl⟩:=okWide_slice hu hv
      exact one rfl (by simp only [argAV,hu])
    · cases hs
theorem looks.mono {h g:Heap}:∀ {ts:List TypeId} {ks:List (List QK)} {r:List AV},looks P h ts ks r→looks P (h++g) ts ks r
  | [],[],_,hl=>hl
  | t :: ts,k :: ks,r,hl=>by
    obtain⟨avs,rest,e,h1,h2⟩:=hl
    exact⟨avs,rest,e,lookL.mono _ _ h1,looks.mono h2⟩
  | [],_ :: _,_,hl=>hl.elim
  | _ :: _,[],_,hl=>hl.elim
theorem open_args {n:Nat} {r:Reach} {b0:Nat}:∀ (ts:List TypeId) (ks:List (List QK)) (vs:List Value) (ds:List (DataW H)) (ps:List MemPlace),shapes P n ts=some ks →
    DataW.TrodAll enc P w 0 (fun _=>true) held ts vs ds ps→(∀ (j:Nat) t v,ts[j]?=some t→vs[j]?=some v→Value.okWide P w r b0 t v) →
    ∀ (σ:Sg) (h:Heap),HeapOK P B σ h w→noOwn h→Opened P B σ h w fun σ' h'=>∃ avs,RelL σ' avs vs∧looks P h' ts ks avs
  | [],ks,vs,ds,ps,hs,ht,hv,σ,h,hk,hn=>by
    simp only [shapes,Option.some.injEq] at hs;subst hs
    obtain⟨rfl,_,_⟩:=trodAll_nil ht
    exact Opened.pure hk hn ⟨[],rfl,rfl⟩
  | t :: ts,ks,vs,ds,ps,hs,ht,hv,σ,h,hk,hn=>by
    simp only [shapes] at hs
    split at hs
    · rename_i k ks' h1 h2
      simp only [Option.some.injEq] at hs;subst hs
      obtain⟨v,vs',d,ds',p,q,rfl,rfl,rfl,⟨fuel,hd⟩,hr⟩:=trodAll_cons ht
      refine (opens n t k h1 fuel _ _ hd σ h hk hn).bind fun τ g hk1 hn1 ⟨avs,r1,l1⟩=>?_
      refine (open_args ts ks' vs' ds' q h2 hr (fun j t' v' a b=>hv (j+1) t' v' (by simpa using a) (by simpa using b)) _ _ hk1 hn1).bind fun τ2 g2 hk2 hn2 ⟨rest,r2,l2⟩=>?_
      have hv0:=hv 0 t v rfl rfl
      refine Opened.pure hk2 hn2 ⟨argAV P t avs :: rest,⟨v,vs',rfl,?_,r2⟩,avs,rest,rfl,lookL.mono _ _ l1,l2⟩
      exact rel_arg h1 hv0 (RelL.mono (Ext.app _ _) _ _ r1)
    · cases hs
theorem trodAll_stays (hl:laidOutB P=true) {W W':World} (hb:Below W.heap.size W W'):∀ {ts:List TypeId} {vs:List Value} {ds:List (DataW H)} {ps:List MemPlace},
    (ts.all fun t=>P.readableRec t && decide (t<P.types.size))=true→DataW.TrodAll enc P W 0 (fun _=>true) true ts vs ds ps→DataW.TrodAll enc P W' 0 (fun b=>decide (b<W.heap.size)) true ts vs ds ps
  | [],vs,ds,ps,_,h=>by
    obtain⟨rfl,rfl,rfl⟩:=trodAll_nil h;exact trodAll_mk0
  | t :: ts,vs,ds,ps,ha,h=>by
    obtain⟨v,vs',d,ds',p,q,rfl,rfl,rfl,hd,hr⟩:=trodAll_cons h
    simp only [List.all_cons,Bool.and_eq_true,decide_eq_true_eq] at ha
    have lt:∀ x∈p,x.block<W.heap.size:=by obtain⟨m,hm⟩:=hd;exact DataW.trod_lt m _ _ _ hm
    exact⟨p,q,Below.trod hl ha.1.1 ha.1.2 hd hb lt,trodAll_stays hl hb ha.2 hr,rfl⟩
theorem trodAll_length {base:Nat} {spare:Nat→Bool}:∀ {ts:List TypeId} {vs:List Value} {ds:List (DataW H)} {ps:List MemPlace},DataW.TrodAll enc P w base spare held ts vs ds ps→ds.length=ts.length
  | [],vs,ds,ps,h=>by obtain⟨rfl,rfl,rfl⟩:=trodAll_nil h;rfl
  | t :: ts,vs,ds,ps,h=>by
    obtain⟨v,vs',d,ds',p,q,rfl,rfl,rfl,hd,hr⟩:=trodAll_cons h
    simp [trodAll_length hr]
end
theorem law_step {H:Type} {enc:TypeId × Value→H} {P:Program} {f:FuncId} {fn:Func} {s:ChangeSpec} {n:Nat} {ks:List (List QK)} {bt:TypeId}
    (hl:laidOutB P=true) (hres:fn.resultTypes.toList=[bt]) (hbt:P.underlying bt=some .bool) (hks:shapes P n fn.params.toList=some ks)
    (hread:(fn.params.toList.all fun t=>P.readableRec t && decide (t<P.types.size))=true) (hvars:s.vars=[])
    (hs:∀ ds:List (DataW H),ds.length=fn.params.toList.length→s.fn H ds={ results:=[.lit (.bool true)],args:=ds })
    (law:∀ (h:Heap) (avs:List AV),noOwn h→looks P h fn.params.toList ks avs→ACalls P f avs h (fun v _=>v=.bool true))
    (W:World) (base:Nat) (args:Array Value) (ds gs:List (DataW H)) (before:List MemPlace)
    (hval:∀ (j:Nat) t v,fn.params[j]?=some t→args[j]?=some v→Value.okWide P W .any base t v)
    (hW:DataW.Whole enc P fn.params.toList s.vars false W args.toList ds gs before) :
    Calls P f args W fun e W'=>∃ v,e=.returned v∧s.post enc P fn false true false false W args v W':=by
  have hW':=hW
  obtain⟨p,q,hA,hV,rfl,hfz,hnd⟩:=hW
  rw [hvars] at hV
  obtain⟨rfl,rfl⟩:=trodVars_none hV
  obtain⟨τ,g,hk,hn,avs,hr,hlk⟩:=open_args (B:=W.heap.size) (r:=.any) (b0:=base) fn.params.toList ks args.toList ds p hks hA (fun j t v a b=>hval j t v (by simpa using a) (by simpa using b)) [] [] (HeapOK.start W) (fun i o h=>by simp at h)
  simp only [List.nil_append] at hk hn hr hlk
  refine ((law g avs hn hlk).2 W.heap.size τ W args hk hr).mono fun e W' ⟨c,σ',v,h',he,_,_,hrel,hgrow,hv⟩=>?_
  subst he;subst hv
  have hc:c=.bool true:=hrel
  subst hc
  have bel:Below W.heap.size W W':=hgrow.below hk
  have hlen:(ds++[]).length=fn.params.toList.length:=by rw [List.append_nil];exact trodAll_length hA
  have hsz:fn.resultTypes.size=1:=by rw [← Array.length_toList,hres];rfl
  refine⟨_,rfl,ds,[],_,[],p,[],hW',?_,?_,?_,bel.frame _,fun h=>by cases h⟩
  · rw [hs _ hlen,hres,hsz]
    exact trodAll_mk1 (shut_bool hbt _)
  · rw [hs _ hlen]
    simp only [List.append_nil]
    exact trodAll_stays hl bel hread hA
  · rw [hs _ hlen,hvars]
    rfl
end Go.Abs
