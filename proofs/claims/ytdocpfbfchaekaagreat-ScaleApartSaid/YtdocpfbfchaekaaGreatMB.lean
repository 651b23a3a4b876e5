/- Several texts as one. -/
import Derived.Test.YtdocpfbfchaekaaGreatMA
import Derived.WideKeyRuns
import Derived.Laws.Slices
import Derived.Laws.StructEq
import Derived.Laws.Small
import Derived.Laws.Cover3
import Derived.Laws.Pointers
import Derived.Laws.MakeOwn
import Derived.MapKept
import Derived.Scope
/- Each abstract operation says what the model's operation does. Fifth part,and all of them. -/
namespace Go.Abs
open Go.RowKit
variable {P:Program}
section
variable {P:Program} {B:Nat} {σ:Sg} {h:Heap} {w:World} {a:Act} {t:List (Nat × AV)} {K:AV→Heap→Prop}
variable {dst:Option Tmp} {ty:TypeId} {pos:String} {after:Array Edge} {guard:Option (Nat × Bool)}
theorem bound_rel (ht:TOK σ t a) {x:Option Operand} {ax:Option AOpd} (hx:(x=none∧ax=none)∨∃ y ay,x=some y∧ax=some ay∧copd y=some ay) {d:AV} {k:IntKind} {l:Int}
    (hd:(ax.map (AOpd.ev t)).getD d=.int k l):(x=none∧d=.int k l)∨∃ y,x=some y∧a.eval y=.int k l:=by
  rcases hx with⟨rfl,rfl⟩|⟨y,ay,rfl,rfl,hc⟩
  · exact .inl ⟨rfl,by simpa using hd⟩
  · refine .inr ⟨y,rfl,?_⟩
    have:=copd_rel ht hc
    simp only [Option.map_some,Option.getD_some] at hd
    rw [hd] at this;exact this
theorem snd_slice (hk:HeapOK P B σ h w) (ht:TOK σ t a) {s e:TypeId} {sz:Nat} {x:Operand} {lo hi:Option Operand} {ax:AOpd} {alo ahi:Option AOpd} (hx:copd x=some ax)
    (hlo:(lo=none∧alo=none)∨∃ y ay,lo=some y∧alo=some ay∧copd y=some ay) (hhi:(hi=none∧ahi=none)∨∃ y ay,hi=some y∧ahi=some ay∧copd y=some ay)
    (hu:P.underlying s=some (.slice e)) (hn:tySize P e=some sz)
    (hs:(AOp.slice ax alo ahi sz).sem (AOpd.ev t) h K):Res P B σ h w ⟨dst,.slice s x lo hi none,ty,pos,after,guard⟩ a K:=by
  have rx:=copd_rel ht hx
  simp only [AOp.sem] at hs
  split at hs
  · rename_i id off ln sz' ex k l hp hl
    rw [hp] at rx
    split at hs
    · rename_i k' m hm
      obtain⟨rfl,h0,h1,h2,hK⟩:=hs
      have el:(l.toNat:Int)=l:=Int.toNat_of_nonneg h0
      have em:(m.toNat:Int)=m:=Int.toNat_of_nonneg (by omega)
      have hlo':=bound_rel ht hlo hl
      have hhi':=bound_rel ht hhi hm
      have run:∀ (ba:Option Addr) (c:Nat),a.eval x=.slice ba ln c→ln≤c →
          (execOp a.eval ⟨dst,.slice s x lo hi none,ty,pos,after,guard⟩).run P w=.ok (.value (.slice (if c=l.toNat then ba else ba.map (·.add (l.toNat * sz'))) (m.toNat-l.toNat) (c-l.toNat))) w:=by
        intro ba c hv hc
        have hb:(Instr.sliceBounds true ln c (lo.map a.eval) (hi.map a.eval) none).run P w=.ok (l.toNat,m.toNat,c) w:=by
          have hm':0≤m:=by omega
          have hmc:m≤(c:Int):=by omega
          rcases hlo' with⟨rfl,hd⟩|⟨y,rfl,hd⟩
          · simp only [AV.int.injEq] at hd
            obtain⟨_,hd⟩:=hd
            subst hd
            rcases hhi' with⟨rfl,hd⟩|⟨y,rfl,hd⟩
            · simp only [AV.int.injEq] at hd
              obtain⟨_,hd⟩:=hd
              subst hd
              simp [Instr.sliceBounds]
            · simp [Instr.sliceBounds,hd,run_sliceBound,hm',hmc]
          · rcases hhi' with⟨rfl,hd'⟩|⟨y',rfl,hd'⟩
            · simp only [AV.int.injEq] at hd'
              obtain⟨_,hd'⟩:=hd'
              subst hd'
              simp [Instr.sliceBounds,hd,run_sliceBound,h0,h1]
            · simp [Instr.sliceBounds,hd,hd',run_sliceBound,hm',hmc,h0,em,h1]
        simp only [execOp,hv,Sem.run_bind,Option.map_none]
        simp [Instr.sliceAt,run_underlying hu,Instr.slice,hb,size_run hn]
      rcases rx with⟨g1,g2,b0,g3⟩|⟨lc,o,c,hl',hv,hlc,hex,hbd⟩
      · subst g2
        have hl0:l=0:=by omega
        have hm0:m=0:=by omega
        subst hl0;subst hm0
        refine Res.pure hk (c:=.slice b0 0 0) (by rw [run b0 0 g3 (Nat.le_refl _)];simp) ?_ hK
        exact .inl ⟨g1,by simp,_,rfl⟩
      · refine Res.pure hk (run _ c hv hlc) ?_ hK
        by_cases hcl:c=l.toNat
        · rw [if_pos hcl]
          refine .inr ⟨lc,o,c-l.toNat,hl',rfl,by omega,fun _=>by omega,.inl (by omega)⟩
        · rw [if_neg hcl]
          refine .inr ⟨lc,o+l.toNat * sz',c-l.toNat,hl',by simp [addr_add],by omega,?_,.inr ?_⟩
          · intro hh
            simp only [Bool.and_eq_true,decide_eq_true_eq] at hh
            have:=hex hh.1
            omega
          · obtain⟨p,q⟩:=hbd.resolve_left (by omega)
            refine⟨by omega,?_⟩
            have e3:c=(c-l.toNat)+l.toNat:=by omega
            have:c * sz'=(c-l.toNat) * sz'+l.toNat * sz':=by rw [← Nat.add_mul,← e3]
            omega
    · cases hs
  · rename_i k l hp hl
    rw [hp] at rx
    split at hs
    · rename_i k' m hm
      obtain⟨rfl,rfl,hK⟩:=hs
      have hlo':=bound_rel ht hlo hl
      have hhi':=bound_rel ht hhi hm
      have hv:a.eval x=.slice none 0 0:=rx
      refine Res.pure hk (c:=.slice none 0 0) ?_ (by exact rfl) hK
      have hb:(Instr.sliceBounds true 0 0 (lo.map a.eval) (hi.map a.eval) none).run P w=.ok (0,0,0) w:=by
        rcases hlo' with⟨rfl,hd⟩|⟨y,rfl,hd⟩
        · rcases hhi' with⟨rfl,hd⟩|⟨y,rfl,hd⟩
          · simp [Instr.sliceBounds]
          · simp [Instr.sliceBounds,hd,run_sliceBound]
        · rcases hhi' with⟨rfl,hd'⟩|⟨y',rfl,hd'⟩
          · simp [Instr.sliceBounds,hd,run_sliceBound]
          · simp [Instr.sliceBounds,hd,hd',run_sliceBound]
      simp only [execOp,hv,Sem.run_bind,Option.map_none]
      simp [Instr.sliceAt,run_underlying hu,Instr.slice,hb,size_run hn]
    · cases hs
  · cases hs
theorem snd_slice3 (hk:HeapOK P B σ h w) (ht:TOK σ t a) {s e:TypeId} {sz:Nat} {x y z:Operand} {lo:Option Operand} {ax ay az:AOpd} {alo:Option AOpd} (hx:copd x=some ax)
    (hlo:(lo=none∧alo=none)∨∃ y ay,lo=some y∧alo=some ay∧copd y=some ay) (hy:copd y=some ay) (hz:copd z=some az)
    (hu:P.underlying s=some (.slice e)) (hn:tySize P e=some sz)
    (hs:(AOp.slice3 ax alo ay az sz).sem (AOpd.ev t) h K):Res P B σ h w ⟨dst,.slice s x lo (some y) (some z),ty,pos,after,guard⟩ a K:=by
  have rx:=copd_rel ht hx
  have ry:=copd_rel ht hy
  have rz:=copd_rel ht hz
  simp only [AOp.sem] at hs
  split at hs
  · rename_i id off ln sz' ex k l k' m k'' q hp hl hm hq
    rw [hp] at rx;rw [hm] at ry;rw [hq] at rz
    simp only [Rel] at ry rz
    obtain⟨rfl,h0,h1,h2,h3,hK⟩:=hs
    have el:(l.toNat:Int)=l:=Int.toNat_of_nonneg h0
    have em:(m.toNat:Int)=m:=Int.toNat_of_nonneg (by omega)
    have eq':(q.toNat:Int)=q:=Int.toNat_of_nonneg (by omega)
    have hlo':=bound_rel ht hlo hl
    have run:∀ (ba:Option Addr) (c:Nat),a.eval x=.slice ba ln c→ln≤c →
        (execOp a.eval ⟨dst,.slice s x lo (some y) (some z),ty,pos,after,guard⟩).run P w=.ok (.value (.slice (if q.toNat=l.toNat then ba else ba.map (·.add (l.toNat * sz'))) (m.toNat-l.toNat) (q.toNat-l.toNat))) w:=by
      intro ba c hv hc
      have hb:(Instr.sliceBounds true ln c (lo.map a.eval) (some (a.eval y)) (some (a.eval z))).run P w=.ok (l.toNat,m.toNat,q.toNat) w:=by
        have hm':0≤m:=by omega
        have hq':0≤q:=by omega
        have hqc:q≤(c:Int):=by omega
        rcases hlo' with⟨rfl,hd⟩|⟨y,rfl,hd⟩
        · simp only [AV.int.injEq] at hd
          obtain⟨_,hd⟩:=hd
          subst hd
          simp [Instr.sliceBounds,ry,rz,run_sliceBound,hm',hq',hqc,eq',h2]
        · simp [Instr.sliceBounds,ry,rz,hd,run_sliceBound,hm',hq',hqc,eq',h2,h0,em,h1]
      simp only [execOp,hv,Sem.run_bind,Option.map_some]
      simp [Instr.sliceAt,run_underlying hu,Instr.slice,hb,size_run hn]
    rcases rx with⟨g1,g2,b0,g3⟩|⟨lc,o,c,hl',hv,hlc,hex,hbd⟩
    · subst g2
      have hl0:l=0:=by omega
      have hm0:m=0:=by omega
      have hq0:q=0:=by omega
      subst hl0;subst hm0;subst hq0
      refine Res.pure hk (c:=.slice b0 0 0) (by rw [run b0 0 g3 (Nat.le_refl _)];simp) ?_ hK
      exact .inl ⟨g1,by simp,_,rfl⟩
    · refine Res.pure hk (run _ c hv hlc) ?_ hK
      by_cases hcl:q.toNat=l.toNat
      · rw [if_pos hcl]
        refine .inr ⟨lc,o,q.toNat-l.toNat,hl',rfl,by omega,fun _=>by omega,.inl (by omega)⟩
      · rw [if_neg hcl]
        refine .inr ⟨lc,o+l.toNat * sz',q.toNat-l.toNat,hl',by simp [addr_add],by omega,?_,.inr ?_⟩
        · intro hh
          simp only [decide_eq_true_eq] at hh
          omega
        · obtain⟨p,r⟩:=hbd.resolve_left (by omega)
          refine⟨by omega,?_⟩
          have e3:q.toNat=(q.toNat-l.toNat)+l.toNat:=by omega
          have e4:q.toNat * sz'=(q.toNat-l.toNat) * sz'+l.toNat * sz':=by rw [← Nat.add_mul,← e3]
          have e5:q.toNat * sz'≤c * sz':=Nat.mul_le_mul_right _ (by omega)
          omega
  · cases hs
theorem copds_two (ht:TOK σ t a) {xs:List Operand} {ax ay:AOpd} (h:copds xs=some [ax,ay]):∃ x y,xs=[x,y]∧copd x=some ax∧copd y=some ay:=by
  match xs,h with
  | [],h=>simp [copds] at h
  | [x],h =>
    simp only [copds] at h
    split at h <;> simp_all
  | [x,y],h =>
    simp only [copds] at h
    cases h1:copd x with
    | none=>simp [h1] at h
    | some p =>
      cases h2:copd y with
      | none=>simp [h1,h2] at h
      | some q =>
        simp only [h1,h2,Option.some.injEq,List.cons.injEq,and_true] at h
        exact⟨x,y,rfl,by rw [h1,h.1],by rw [h2,h.2]⟩
  | x :: y :: z :: r,h =>
    simp only [copds] at h
    cases h1:copd x <;> cases h2:copd y <;> cases h3:copd z <;> cases h4:copds r <;> simp_all
theorem snd_min (hk:HeapOK P B σ h w) (ht:TOK σ t a) {args:Array Operand} {ats:Array TypeId} {ax ay:AOpd} (hx:copds args.toList=some [ax,ay])
    (hs:(AOp.min2 ax ay).sem (AOpd.ev t) h K):Res P B σ h w ⟨dst,.call { callee:=.builtin .min,args,argTypes:=ats },ty,pos,after,guard⟩ a K:=by
  obtain⟨x,y,hxy,h1,h2⟩:=copds_two ht hx
  have e1:args=#[x,y]:=by apply Array.ext';simpa using hxy
  subst e1
  have rx:=copd_rel ht h1
  have ry:=copd_rel ht h2
  simp only [AOp.sem] at hs
  split at hs
  · rename_i k p k' q hp hq
    rw [hp] at rx;rw [hq] at ry
    simp only [Rel] at rx ry
    refine Res.pure hk (c:=.int k (if q<p then q else p)) ?_ (by exact rfl) hs
    simp [execOp,resolve,invoke,builtin,Builtin.min_,Builtin.min2,rx,ry]
  · cases hs
theorem snd_max (hk:HeapOK P B σ h w) (ht:TOK σ t a) {args:Array Operand} {ats:Array TypeId} {ax ay:AOpd} (hx:copds args.toList=some [ax,ay])
    (hs:(AOp.max2 ax ay).sem (AOpd.ev t) h K):Res P B σ h w ⟨dst,.call { callee:=.builtin .max,args,argTypes:=ats },ty,pos,after,guard⟩ a K:=by
  obtain⟨x,y,hxy,h1,h2⟩:=copds_two ht hx
  have e1:args=#[x,y]:=by apply Array.ext';simpa using hxy
  subst e1
  have rx:=copd_rel ht h1
  have ry:=copd_rel ht h2
  simp only [AOp.sem] at hs
  split at hs
  · rename_i k p k' q hp hq
    rw [hp] at rx;rw [hq] at ry
    simp only [Rel] at rx ry
    refine Res.pure hk (c:=.int k (if p<q then q else p)) ?_ (by exact rfl) hs
    simp [execOp,resolve,invoke,builtin,Builtin.max_,Builtin.max2,rx,ry]
  · cases hs
/-! ### Comparison of structs and arrays -/
theorem eqAt_append {x y:List AV}:∀ {os ps:List (Nat × CK)} {r:Bool},eqAt x y (os++ps)=some r→∃ r1 r2,eqAt x y os=some r1∧eqAt x y ps=some r2∧r=(r1 && r2)
  | [],ps,r,h=>⟨true,r,rfl,h,by simp⟩
  | (o,c) :: os,ps,r,h=>by
    simp only [List.cons_append,eqAt] at h
    split at h
    · rename_i p q u h1 h2 h3
      split at h
      · rename_i s hs
        simp only [Option.some.injEq] at h
        obtain⟨r1,r2,g1,g2,rfl⟩:=eqAt_append h3
        exact⟨s && r1,r2,by simp [eqAt,h1,h2,g1,hs],g2,by rw [← h,Bool.and_assoc]⟩
      · cases h
    · cases h
theorem eqAt_shift {x y:List AV} (d n:Nat):∀ {os:List (Nat × CK)},os.all (fun o=>decide (o.1<n))=true→eqAt x y (os.map (fun o=>(d+o.1,o.2)))=eqAt ((x.drop d).take n) ((y.drop d).take n) os
  | [],_=>rfl
  | (o,c) :: os,h=>by
    simp only [List.all_cons,Bool.and_eq_true,decide_eq_true_eq] at h
    simp only [List.map_cons,eqAt,List.getElem?_take,h.1,if_true,List.getElem?_drop,eqAt_shift d n h.2]
theorem eqCell_scal {c:CK} {x y:AV} {r:Bool} (h:eqCell c x y=some r):scal x=true∧scal y=true:=by
  unfold eqCell at h
  split at h <;> first|exact⟨rfl,rfl⟩|cases h
def Fit (P:Program) (e:TypeId) (u:Value) (x:List AV):Prop :=
  (tyAgg P e=some true→∃ p,u=.agg p)∧(tyAgg P e=some false→∃ p,x=[p]∧u.cells=#[u])
theorem oneCell_cells {u:Value} (h:∀ c,u≠.agg c):u.cells=#[u]:=by
  cases u <;> first|rfl|(rename_i c;exact (h c rfl).elim)
def CKOf (P:Program) (e:TypeId):CK→Prop
  | .int=>∃ k,P.underlying e=some (.int k)
  | .bool=>P.underlying e=some .bool
  | .str=>P.underlying e=some .string
theorem eqOffs_cases {n:Nat} {e:TypeId} {os:List (Nat × CK)} (h:eqOffs P n e=some os) :
    (∃ c,os=[(0,c)]∧tySize P e=some 1∧tyAgg P e=some false∧CKOf P e c)∨tyAgg P e=some true:=by
  cases n with
  | zero=>simp [eqOffs] at h
  | succ n =>
    simp only [eqOffs] at h
    split at h
    · rename_i k hu
      split at h
      · rename_i h1;simp only [Option.some.injEq] at h;exact .inl ⟨_,h.symm,h1,by simp [tyAgg,hu],⟨k,hu⟩⟩
      · cases h
    · rename_i hu
      split at h
      · rename_i h1;simp only [Option.some.injEq] at h;exact .inl ⟨_,h.symm,h1,by simp [tyAgg,hu],hu⟩
      · cases h
    · rename_i hu
      split at h
      · rename_i h1;simp only [Option.some.injEq] at h;exact .inl ⟨_,h.symm,h1,by simp [tyAgg,hu],hu⟩
      · cases h
    · rename_i hu;exact .inr (by simp [tyAgg,hu])
    · rename_i hu;exact .inr (by simp [tyAgg,hu])
    · cases h
theorem part_fit {n:Nat} {p:Array Value} {x:List AV} (hx:RelL σ x p.toList) {e:TypeId} {os:List (Nat × CK)} {sz off:Nat} (h1:eqOffs P n e=some os) (h2:tySize P e=some sz) {y:List AV} {r:Bool}
    (g1:eqAt ((x.drop off).take sz) y os=some r∨eqAt y ((x.drop off).take sz) os=some r) :
    ∃ u,(part e p off).run P w=.ok u w∧RelL σ ((x.drop off).take sz) u.cells.toList∧Fit P e u ((x.drop off).take sz):=by
  rcases eqOffs_cases h1 with⟨c,rfl,hsz,hag,hck⟩|hag
  · rw [hsz] at h2;simp only [Option.some.injEq] at h2;subst h2
    have hxa:∃ xa,((x.drop off).take 1)[0]?=some xa∧scal xa=true:=by
      rcases g1 with g1|g1 <;>
      · simp only [eqAt] at g1
        split at g1
        · rename_i a b u h3 h4 _
          split at g1
          · rename_i s hs
            have:=eqCell_scal hs
            first|exact⟨_,h3,this.1⟩|exact⟨_,h4,this.2⟩
          · cases g1
        · cases g1
    obtain⟨xa,hxa,hsx⟩:=hxa
    have h0:x[off]?=some xa:=by
      rw [List.getElem?_take,if_pos (by omega),List.getElem?_drop,Nat.add_zero] at hxa;exact hxa
    have hlt:=get_some_lt h0
    have htk:(x.drop off).take 1=[xa]:=by
      rw [List.drop_eq_getElem_cons hlt]
      have:x[off]=xa:=by rw [List.getElem?_eq_getElem hlt] at h0;exact Option.some.inj h0
      simp [this]
    obtain⟨u,hu1,hu2⟩:=hx.get h0
    have cu:u.cells=#[u]:=oneCell_cells (fun c hc=>by have:=scal_one hsx hu2;rw [hc] at this;simp [Value.oneCell'] at this)
    refine⟨u,?_,?_,(fun hh=>by rw [hag] at hh;cases hh),fun _=>⟨xa,htk,cu⟩⟩
    · have:p[off]?=some u:=by simpa using hu1
      simp [part,agg_run hag,this]
    · rw [htk,cu];exact⟨u,[],rfl,hu2,rfl⟩
  · refine⟨.agg (p.extract off (off+sz)),by simp [part,agg_run hag,size_run h2],?_,fun _=>⟨_,rfl⟩,fun hh=>by rw [hag] at hh;cases hh⟩
    simpa [Value.cells,Array.toList_extract,List.extract_eq_take_drop] using RelL.take sz (RelL.drop off hx)
theorem fields_sound {n d:Nat} (ih:∀ (e:TypeId) (offs:List (Nat × CK)),eqOffs P n e=some offs→∀ (u v:Value) (x y:List AV) (r:Bool),
    Fit P e u x→Fit P e v y→RelL σ x u.cells.toList→RelL σ y v.cells.toList→eqAt x y offs=some r→(Op.equalIn d e u v).run P w=.ok r w)
    {p q:Array Value} {x y:List AV} (hx:RelL σ x p.toList) (hy:RelL σ y q.toList) :
    ∀ (fs:List Field) (offs:List (Nat × CK)) (r:Bool),fs.foldr (fun f r=>match eqOffs P n f.type,tySize P f.type,r with
        | some os,some sz,some r=>if f.name≠"_"∧os.all (fun o=>decide (o.1<sz))=true then some (os.map (fun o=>(f.offset+o.1,o.2))++r) else none
        | _,_,_=>none) (some [])=some offs→eqAt x y offs=some r→(Op.eqFields d p q fs).run P w=.ok r w
  | [],offs,r,h,hr=>by
    simp only [List.foldr_nil,Option.some.injEq] at h;subst h
    simp only [eqAt,Option.some.injEq] at hr;subst hr
    simp [Op.eqFields]
  | f :: fs,offs,r,h,hr=>by
    simp only [List.foldr_cons] at h
    split at h
    · rename_i os sz rr h1 h2 h3
      split at h
      · rename_i hc
        simp only [Option.some.injEq] at h;subst h
        obtain⟨r1,r2,g1,g2,rfl⟩:=eqAt_append hr
        rw [eqAt_shift f.offset sz hc.2] at g1
        have rest:=fields_sound ih hx hy fs rr r2 h3 g2
        obtain⟨u,e1,k1,f1⟩:=part_fit hx h1 h2 (w:=w) (.inl g1)
        obtain⟨v,e2,k2,f2⟩:=part_fit hy h1 h2 (w:=w) (.inr g1)
        have e3:=ih _ _ h1 u v _ _ r1 f1 f2 k1 k2 g1
        simp only [Op.eqFields,ne_eq,hc.1,not_false_eq_true,if_true,Sem.run_bind,e1,e2,e3,Result.andThen_ok]
        cases r1
        · simp
        · simpa using rest
      · cases h
    · cases h
theorem items_sound {n d:Nat} (ih:∀ (e:TypeId) (offs:List (Nat × CK)),eqOffs P n e=some offs→∀ (u v:Value) (x y:List AV) (r:Bool),
    Fit P e u x→Fit P e v y→RelL σ x u.cells.toList→RelL σ y v.cells.toList→eqAt x y offs=some r→(Op.equalIn d e u v).run P w=.ok r w)
    {p q:Array Value} {x y:List AV} (hx:RelL σ x p.toList) (hy:RelL σ y q.toList) {e:TypeId} {os:List (Nat × CK)} {sz:Nat} (h1:eqOffs P n e=some os) (h2:tySize P e=some sz)
    (ha:os.all (fun o=>decide (o.1<sz))=true) :
    ∀ (is:List Nat) (r:Bool),eqAt x y (is.flatMap fun i=>os.map (fun o=>(i * sz+o.1,o.2)))=some r→(Op.eqItems d e sz p q is).run P w=.ok r w
  | [],r,hr=>by
    simp only [List.flatMap_nil,eqAt,Option.some.injEq] at hr;subst hr
    simp [Op.eqItems]
  | i :: is,r,hr=>by
    simp only [List.flatMap_cons] at hr
    obtain⟨r1,r2,g1,g2,rfl⟩:=eqAt_append hr
    rw [eqAt_shift (i * sz) sz ha] at g1
    have rest:=items_sound ih hx hy h1 h2 ha is r2 g2
    obtain⟨u,e1,k1,f1⟩:=part_fit hx h1 h2 (w:=w) (.inl g1)
    obtain⟨v,e2,k2,f2⟩:=part_fit hy h1 h2 (w:=w) (.inr g1)
    have e3:=ih _ _ h1 u v _ _ r1 f1 f2 k1 k2 g1
    simp only [Op.eqItems,Sem.run_bind,e1,e2,e3,Result.andThen_ok]
    cases r1
    · simp
    · simpa using rest
theorem one_rel {u:Value} {p:AV} (h1:u.cells=#[u]) (hx:RelL σ [p] u.cells.toList):Rel σ p u:=by
  rw [h1] at hx
  obtain⟨u',_,e1,hx,_⟩:=hx
  simp only [List.cons.injEq] at e1
  obtain⟨rfl,_⟩:=e1
  exact hx
theorem eqAt_one {p q:AV} {c:CK} {r:Bool} (h:eqAt [p] [q] [(0,c)]=some r):eqCell c p q=some r:=by
  simp only [eqAt,List.getElem?_cons_zero] at h
  split at h
  · rename_i s hs;simp only [Bool.and_true,Option.some.injEq] at h;subst h;exact hs
  · cases h
theorem cell_sound {d:Nat} {e:TypeId} {c:CK} (hk:CKOf P e c) {p q:AV} {u v:Value} {r:Bool} (hp:Rel σ p u) (hq:Rel σ q v) (h:eqCell c p q=some r):(Op.equalIn (d+1) e u v).run P w=.ok r w:=by
  unfold eqCell at h
  split at h
  · simp only [Rel] at hp hq
    subst hp;subst hq
    split at h
    · rename_i hkk
      subst hkk
      simp only [Option.some.injEq] at h;subst h
      obtain⟨k',hu⟩:=hk
      rw [run_equalIn_int w d e _ _ _ _ hu]
      congr 1
    · cases h
  · simp only [Rel] at hp hq
    subst hp;subst hq
    simp only [Option.some.injEq] at h;subst h
    rw [run_equalIn_bool w d e _ _ hk]
  · simp only [Rel] at hp hq
    subst hp;subst hq
    simp only [Option.some.injEq] at h;subst h
    rw [run_equalIn_string w d e _ _ hk]
  · cases h
theorem equal_sound:∀ (n:Nat) (d:Nat),n≤d→∀ (e:TypeId) (offs:List (Nat × CK)),eqOffs P n e=some offs→∀ (u v:Value) (x y:List AV) (r:Bool),
    Fit P e u x→Fit P e v y→RelL σ x u.cells.toList→RelL σ y v.cells.toList→eqAt x y offs=some r→(Op.equalIn d e u v).run P w=.ok r w
  | 0,_,_,_,_,h,_,_,_,_,_,_,_,_,_,_=>by simp [eqOffs] at h
  | n+1,d,hd,e,offs,h,u,v,x,y,r,fx,fy,hx,hy,hr=>by
    obtain⟨d,rfl⟩:∃ d',d=d'+1:=⟨d-1,by omega⟩
    rcases eqOffs_cases h with⟨c,rfl,_,hag,hck⟩|hag
    · obtain⟨p,rfl,h1⟩:=fx.2 hag
      obtain⟨q,rfl,h2⟩:=fy.2 hag
      exact cell_sound hck (one_rel h1 hx) (one_rel h2 hy) (eqAt_one hr)
    · obtain⟨p,rfl⟩:=fx.1 hag
      obtain⟨q,rfl⟩:=fy.1 hag
      have ih:=fun e offs h u v x y r a b c k=>equal_sound n d (by omega) e offs h u v x y r a b c k
      simp only [eqOffs] at h
      split at h
      · rename_i hu;simp [tyAgg,hu] at hag
      · rename_i hu;simp [tyAgg,hu] at hag
      · rename_i hu;simp [tyAgg,hu] at hag
      · rename_i fields hu
        split at h
        · cases h
        · rename_i hst
          have hf:P.fieldsOf e=fields:=by simp [Program.fieldsOf,hu]
          rw [run_equalIn_struct w d e p q (by rw [hf];exact hu) (by simpa using hst),hf]
          exact fields_sound ih hx hy _ _ _ h hr
      · rename_i m e' hu
        split at h
        · rename_i os sz h1 h2
          split at h
          · rename_i ha
            simp only [Option.some.injEq] at h;subst h
            unfold tySize at h2
            simp only [Option.map_eq_some_iff] at h2
            obtain⟨i,hi,hs⟩:=h2
            have hsz:P.cellsOf e'=sz:=by simp [Program.cellsOf,hi,hs]
            rw [run_equalIn_array w d p q hu hi,hsz]
            exact items_sound ih hx hy h1 (by simp [tySize,hi,hs]) ha _ _ hr
          · cases h
        · cases h
      · cases h
theorem snd_eqCells (hk:HeapOK P B σ h w) (ht:TOK σ t a) {op:BinOp} {e yt:TypeId} {offs:List (Nat × CK)} {x y:Operand} {ax ay:AOpd} (hx:copd x=some ax) (hy:copd y=some ay)
    (hop:op=.eql∨op=.neq) (hag:tyAgg P e=some true) (ho:eqOffs P 20 e=some offs) (hg:P.eqGuardType P.depth e=false)
    (hs:(AOp.eqCells (op matches .neq) offs ax ay).sem (AOpd.ev t) h K):Res P B σ h w ⟨dst,.binOp op e x y yt,ty,pos,after,guard⟩ a K:=by
  have rx:=copd_rel ht hx
  have ry:=copd_rel ht hy
  simp only [AOp.sem] at hs
  split at hs
  · rename_i p q h1 h2
    rw [h1] at rx;rw [h2] at ry
    obtain⟨u,hu1,hu2⟩:=rx
    obtain⟨v,hv1,hv2⟩:=ry
    split at hs
    · rename_i r hr
      have key:=equal_sound (P:=P) (w:=w) 20 10000 (by omega) e offs ho (.agg u) (.agg v) p q r ⟨fun _=>⟨u,rfl⟩,fun hh=>by rw [hag] at hh;cases hh⟩ ⟨fun _=>⟨v,rfl⟩,fun hh=>by rw [hag] at hh;cases hh⟩ hu2 hv2 hr
      rcases hop with rfl|rfl
      · refine Res.pure hk (c:=.bool r) ?_ ?_ hs
        · simp only [execOp,hu1,hv1,Sem.run_bind,run_eqGuard_agg w _ e x y u v hg,Result.andThen_ok,run_eql_struct,key];rfl
        · simp [Rel]
      · refine Res.pure hk (c:=.bool (!r)) ?_ ?_ hs
        · simp only [execOp,hu1,hv1,Sem.run_bind,run_eqGuard_agg w _ e x y u v hg,Result.andThen_ok,run_neq_struct,key];rfl
        · simp [Rel]
    · cases hs
  · cases hs
end
end Go.Abs
/- Each abstract operation says what the model's operation does. Sixth part: comparison with nil,of bools;shifts;strings;new slices. -/
namespace Go.Abs
open Go.RowKit
section
variable {P:Program} {B:Nat} {σ:Sg} {h:Heap} {w:World} {a:Act} {t:List (Nat × AV)} {K:AV→Heap→Prop}
variable {dst:Option Tmp} {ty:TypeId} {pos:String} {after:Array Edge} {guard:Option (Nat × Bool)}
def EK.fits (P:Program) (e:TypeId):EK→Prop
  | .bool=>P.underlying e=some .bool
  | .slice=>∃ t,P.underlying e=some (.slice t)
  | .ptr=>∃ t,P.underlying e=some (.pointer t)
  | .func=>∃ p r v,P.underlying e=some (.func p r v)
  | .map=>∃ k v,P.underlying e=some (.map k v)
theorem eqv_run {k:EK} {e:TypeId} {x y:AV} {u v:Value} {r:Bool} (hf:k.fits P e) (hu:Rel σ x u) (hv:Rel σ y v) (hr:eqvA k x y=some r) :
    (∀ d,(Op.equalIn (d+1) e u v).run P w=.ok r w)∧(∀ p q,¬ (u=.int p q))∧(∀ p,u≠.string p)∧(∀ p q,u≠.float p q)∧(∀ p q s,u≠.complex p q s)∧u≠.nilIface∧(∀ p,u≠.agg p):=by
  unfold eqvA at hr
  split at hr
  case h_1 =>
    simp only [Option.some.injEq] at hr;subst hr
    simp only [Rel] at hu hv;subst hu;subst hv
    exact⟨fun d=>by simp [Op.equalIn,run_underlying (show P.underlying e=some .bool from hf)],by simp,by simp,by simp,by simp,by simp,by simp⟩
  case h_14=>cases hr
  all_goals
    (try (split at hr;· cases hr))
    simp only [Option.some.injEq] at hr;subst hr
    obtain⟨_,hf⟩:=hf
    try obtain⟨_,hf⟩:=hf
    try obtain⟨_,hf⟩:=hf
    simp only [Rel] at hu hv
  case h_2=>subst hu;subst hv;exact⟨fun d=>by simp [Op.equalIn,run_underlying hf],by simp,by simp,by simp,by simp,by simp,by simp⟩
  case h_3 =>
    subst hv
    rcases hu with⟨_,h0,_⟩|⟨l,o,c,_,rfl,_⟩
    · exact absurd h0 (by assumption)
    · exact⟨fun d=>by simp [Op.equalIn,run_underlying hf],by simp,by simp,by simp,by simp,by simp,by simp⟩
  case h_4 =>
    subst hu
    rcases hv with⟨_,h0,_⟩|⟨l,o,c,_,rfl,_⟩
    · exact absurd h0 (by assumption)
    · exact⟨fun d=>by simp [Op.equalIn,run_underlying hf],by simp,by simp,by simp,by simp,by simp,by simp⟩
  case h_5=>subst hu;subst hv;exact⟨fun d=>by simp [Op.equalIn,run_underlying hf],by simp,by simp,by simp,by simp,by simp,by simp⟩
  case h_6=>obtain⟨_,_,rfl⟩:=hu;subst hv;exact⟨fun d=>by simp [Op.equalIn,run_underlying hf],by simp,by simp,by simp,by simp,by simp,by simp⟩
  case h_7=>obtain⟨_,_,rfl⟩:=hv;subst hu;exact⟨fun d=>by simp [Op.equalIn,run_underlying hf],by simp,by simp,by simp,by simp,by simp,by simp⟩
  case h_8=>subst hu;subst hv;exact⟨fun d=>by simp [Op.equalIn,run_underlying hf],by simp,by simp,by simp,by simp,by simp,by simp⟩
  case h_9=>obtain⟨_,_,rfl,_⟩:=hu;subst hv;exact⟨fun d=>by simp [Op.equalIn,run_underlying hf],by simp,by simp,by simp,by simp,by simp,by simp⟩
  case h_10=>obtain⟨_,_,rfl,_⟩:=hv;subst hu;exact⟨fun d=>by simp [Op.equalIn,run_underlying hf],by simp,by simp,by simp,by simp,by simp,by simp⟩
  case h_11=>subst hu;subst hv;exact⟨fun d=>by simp [Op.equalIn,run_underlying hf],by simp,by simp,by simp,by simp,by simp,by simp⟩
  case h_12=>obtain⟨_,_,rfl⟩:=hu;subst hv;exact⟨fun d=>by simp [Op.equalIn,run_underlying hf],by simp,by simp,by simp,by simp,by simp,by simp⟩
  case h_13=>obtain⟨_,_,rfl⟩:=hv;subst hu;exact⟨fun d=>by simp [Op.equalIn,run_underlying hf],by simp,by simp,by simp,by simp,by simp,by simp⟩
theorem snd_shift (hk:HeapOK P B σ h w) (ht:TOK σ t a) {op:BinOp} (hop:op=.shl∨op=.shr) {e yt:TypeId} {x y:Operand} {ax ay:AOpd} (hx:copd x=some ax) (hy:copd y=some ay)
    (hs:(AOp.shift (op matches .shl) ax ay).sem (AOpd.ev t) h K):Res P B σ h w ⟨dst,.binOp op e x y yt,ty,pos,after,guard⟩ a K:=by
  have rx:=copd_rel ht hx
  have ry:=copd_rel ht hy
  simp only [AOp.sem] at hs
  split at hs
  · rename_i v hv
    unfold shiftA at hv
    split at hv
    · rename_i k p k' q h1 h2
      split at hv
      · cases hv
      · rename_i hq
        simp only [Option.some.injEq] at hv;subst hv
        rw [h1] at rx;rw [h2] at ry
        simp only [Rel] at rx ry
        rcases hop with rfl|rfl
        · exact Res.pure hk (c:=.int k (k.wrap (p * 2 ^ (min q.toNat k.bits)))) (by simp [execOp,rx,ry,eqGuard,binOp,Op.shift,hq]) (by exact rfl) hs
        · exact Res.pure hk (c:=.int k (p.fdiv (2 ^ (min q.toNat k.bits)))) (by simp [execOp,rx,ry,eqGuard,binOp,Op.shift,hq]) (by exact rfl) hs
    · cases hv
  · cases hs
theorem snd_sIdx (hk:HeapOK P B σ h w) (ht:TOK σ t a) {s:TypeId} {x i:Operand} {ax ai:AOpd} (hx:copd x=some ax) (hi:copd i=some ai) (hu:P.underlying s=some .string)
    (hs:(AOp.sIdx ax ai).sem (AOpd.ev t) h K):Res P B σ h w ⟨dst,.index s x i,ty,pos,after,guard⟩ a K:=by
  have rx:=copd_rel ht hx
  have ri:=copd_rel ht hi
  simp only [AOp.sem] at hs
  split at hs
  · rename_i st k n h1 h2
    rw [h1] at rx;rw [h2] at ri
    simp only [Rel] at rx ri
    obtain⟨h0,hs⟩:=hs
    split at hs
    · rename_i b hb
      exact Res.pure hk (c:=.int .u8 b.toNat) (by simp [execOp,rx,ri,Instr.index,asIntOf,run_underlying hu,h0,hb]) (by exact rfl) hs
    · cases hs
  · cases hs
theorem sbound_run {x:Value} {k:IntKind} {n:Int} {y:Nat} {code:BoundsCode} (hx:x=.int k n) (h0:0≤n) (h1:n≤y):(Instr.sliceBound x y code).run P w=.ok n.toNat w:=by
  subst hx
  simp [Instr.sliceBound,asIntOf,h0,h1]
theorem snd_sSlice (hk:HeapOK P B σ h w) (ht:TOK σ t a) {s:TypeId} {x:Operand} {lo hi:Option Operand} {ax:AOpd} {alo ahi:Option AOpd} (hx:copd x=some ax)
    (hlo:(lo=none∧alo=none)∨∃ y ay,lo=some y∧alo=some ay∧copd y=some ay) (hhi:(hi=none∧ahi=none)∨∃ y ay,hi=some y∧ahi=some ay∧copd y=some ay)
    (hu:P.underlying s=some .string) (hs:(AOp.sSlice ax alo ahi).sem (AOpd.ev t) h K):Res P B σ h w ⟨dst,.slice s x lo hi none,ty,pos,after,guard⟩ a K:=by
  have rx:=copd_rel ht hx
  simp only [AOp.sem] at hs
  split at hs
  · rename_i st k l h1 h2
    rw [h1] at rx
    simp only [Rel] at rx
    split at hs
    · rename_i k2 m h3
      obtain⟨q0,q1,q2,hK⟩:=hs
      have bl:=bound_rel ht hlo h2
      have bh:=bound_rel ht hhi h3
      refine Res.pure hk (c:=.string (st.extract l.toNat m.toNat)) (v:=.str (st.extract l.toNat m.toNat)) ?_ rfl hK
      rcases bl with⟨rfl,hl⟩|⟨yl,rfl,hl⟩ <;> rcases bh with⟨rfl,hm⟩|⟨yh,rfl,hm⟩
      · simp only [AV.int.injEq] at hl hm
        obtain⟨rfl,rfl⟩:=hl;obtain⟨rfl,rfl⟩:=hm
        simp [execOp,rx,Instr.sliceAt,Instr.slice,run_underlying hu,Instr.sliceBounds]
      · simp only [AV.int.injEq] at hl
        obtain⟨rfl,rfl⟩:=hl
        simp [execOp,rx,Instr.sliceAt,Instr.slice,run_underlying hu,Instr.sliceBounds,sbound_run hm (by omega) q2]
      · simp only [AV.int.injEq] at hm
        obtain⟨rfl,rfl⟩:=hm
        have:=sbound_run (P:=P) (w:=w) (code:=.sliceB) hl q0 (show l≤((st.size:Nat):Int) by omega)
        simp [execOp,rx,Instr.sliceAt,Instr.slice,run_underlying hu,Instr.sliceBounds,this]
      · have:=sbound_run (P:=P) (w:=w) (y:=m.toNat) (code:=.sliceB) hl q0 (by omega)
        simp [execOp,rx,Instr.sliceAt,Instr.slice,run_underlying hu,Instr.sliceBounds,sbound_run hm (by omega) q2,this]
    · cases hs
  · cases hs
theorem snd_capS (hk:HeapOK P B σ h w) (ht:TOK σ t a) {s e:TypeId} {x:Operand} {ax:AOpd} (hx:copd x=some ax)
    (hu:P.underlying s=some (.slice e)) {args:Array Operand} {ats:Array TypeId} (ha:args.toList=[x]) (hts:ats.toList=[s])
    (hs:(AOp.capS ax).sem (AOpd.ev t) h K):Res P B σ h w ⟨dst,.call { callee:=.builtin .cap,args,argTypes:=ats },ty,pos,after,guard⟩ a K:=by
  have rx:=copd_rel ht hx
  obtain rfl:args=#[x]:=by rw [← Array.toArray_toList (xs:=args),ha]
  obtain rfl:ats=#[s]:=by rw [← Array.toArray_toList (xs:=ats),hts]
  simp only [AOp.sem] at hs
  split at hs
  · rename_i hp
    rw [hp] at rx;simp only [Rel] at rx
    exact Res.pure hk (c:=.int .i64 0) (by simp [execOp,resolve,invoke,builtin,Builtin.cap_,rx,run_underlying hu,goInt]) (by exact rfl) hs
  · rename_i id off ln sz hp
    rw [hp] at rx
    rcases rx with⟨_,rfl,aa,hv⟩|⟨l,o,c,_,hv,_,hc,_⟩
    · exact Res.pure hk (c:=.int .i64 0) (by simp [execOp,resolve,invoke,builtin,Builtin.cap_,hv,run_underlying hu,goInt]) (by exact rfl) hs
    · have:=hc rfl
      subst this
      exact Res.pure hk (c:=.int .i64 c) (by simp [execOp,resolve,invoke,builtin,Builtin.cap_,hv,run_underlying hu,goInt]) (by exact rfl) hs
  · cases hs
theorem snd_eqv (hk:HeapOK P B σ h w) (ht:TOK σ t a) {op:BinOp} (hop:op=.eql∨op=.neq) {k:EK} {e yt:TypeId} (hf:k.fits P e) {x y:Operand} {ax ay:AOpd} (hx:copd x=some ax) (hy:copd y=some ay)
    (hs:(AOp.eqv k (op matches .neq) ax ay).sem (AOpd.ev t) h K):Res P B σ h w ⟨dst,.binOp op e x y yt,ty,pos,after,guard⟩ a K:=by
  have rx:=copd_rel ht hx
  have ry:=copd_rel ht hy
  simp only [AOp.sem] at hs
  split at hs
  · rename_i r hr
    obtain⟨hrun,n1,n2,n3,n4,n5,n6⟩:=eqv_run (P:=P) (w:=w) hf rx ry hr
    have heq:(Op.equal e (a.eval x) (a.eval y)).run P w=.ok r w:=hrun 9999
    have hg:∀ (x' y':Operand),(eqGuard op e x' y' (a.eval x) (a.eval y)).run P w=.ok () w:=by
      intro x' y'
      unfold eqGuard
      rcases hop with rfl|rfl <;> (simp only [Bool.not_true,Bool.false_eq_true,if_false];split <;> first|(rename_i h1 _;exact absurd h1 n5)|(rename_i h1 _;exact absurd h1 (n6 _))|simp)
    rcases hop with rfl|rfl
    · have hb:binOp .eql e (a.eval x) (a.eval y)=(do pure (.bool (← Op.equal e (a.eval x) (a.eval y)))):=by
        revert n1 n2 n3 n4
        generalize a.eval x=u
        generalize a.eval y=v
        intro n1 n2 n3 n4
        cases u <;> first|rfl|exact absurd rfl (n1 _ _)|exact absurd rfl (n2 _)|exact absurd rfl (n3 _ _)|exact absurd rfl (n4 _ _ _)
      exact Res.pure hk (c:=.bool r) (by simp [execOp,hg,hb,heq,Sem.run_bind]) (by exact rfl) hs
    · have hb:binOp .neq e (a.eval x) (a.eval y)=(do pure (.bool (!(← Op.equal e (a.eval x) (a.eval y))))):=by
        revert n1 n2 n3 n4
        generalize a.eval x=u
        generalize a.eval y=v
        intro n1 n2 n3 n4
        cases u <;> first|rfl|exact absurd rfl (n1 _ _)|exact absurd rfl (n2 _)|exact absurd rfl (n3 _ _)|exact absurd rfl (n4 _ _ _)
      exact Res.pure hk (c:=.bool (!r)) (by simp [execOp,hg,hb,heq,Sem.run_bind]) (by exact rfl) hs
  · cases hs
theorem madeCells_eq {z:Array Value} {n:Nat} (hz:0<z.size):(madeCells z (n * z.size)).toList=(List.replicate n z.toList).flatten:=by
  apply List.ext_getElem?
  intro j
  rw [Array.getElem?_toList]
  by_cases hj:j<n * z.size
  · have h1:(madeCells z (n * z.size))[j]?=some (z[j % z.size]!):=by
      simp [madeCells,hj]
    have hm:j % z.size<z.size:=Nat.mod_lt _ hz
    have hd:j / z.size<n:=(Nat.div_lt_iff_lt_mul hz).2 hj
    have key:∀ (n:Nat) (q r:Nat),q<n→r<z.size→(List.replicate n z.toList).flatten[q * z.size+r]?=z.toList[r]?:=by
      intro n
      induction n with
      | zero=>intro q r hq;omega
      | succ n ih =>
        intro q r hq hr
        rw [List.replicate_succ,List.flatten_cons]
        cases q with
        | zero=>rw [List.getElem?_append_left (by simpa using hr)];simp
        | succ q =>
          rw [List.getElem?_append_right (by simp [Nat.add_mul];omega)]
          have:(q+1) * z.size+r-z.toList.length=q * z.size+r:=by simp [Nat.add_mul];omega
          rw [this];exact ih q r (by omega) hr
    have h2:=key n (j / z.size) (j % z.size) hd hm
    rw [show j / z.size * z.size+j % z.size=j by rw [Nat.mul_comm];exact Nat.div_add_mod j z.size] at h2
    rw [h1,h2]
    simp [getElem!_pos,hm]
  · rw [Array.getElem?_eq_none (by simp [madeCells];omega),List.getElem?_eq_none (by simp [List.length_flatten];omega)]
theorem relL_rep {zs:List AV} {cs:List Value} (hr:RelL σ zs cs):∀ (n:Nat),RelL σ (List.replicate n zs).flatten (List.replicate n cs).flatten
  | 0=>rfl
  | n+1=>by
    rw [List.replicate_succ,List.replicate_succ,List.flatten_cons,List.flatten_cons]
    exact RelL.append hr (relL_rep hr n)
theorem snd_makeSl (hk:HeapOK P B σ h w) (ht:TOK σ t a) {s e:TypeId} {i:TypeInfo} {zs:List AV} {x y:Operand} {ax ay:AOpd} (hx:copd x=some ax) (hy:copd y=some ay)
    (hu:P.underlying s=some (.slice e)) (hi:P.info? e=some i) (hz:tyZero P e=some zs) (hzl:zs.length=i.size) (hpos:0<i.size)
    (hs:(AOp.makeSl zs i.size i.bytes ax ay).sem (AOpd.ev t) h K):Res P B σ h w ⟨dst,.makeSlice s x y,ty,pos,after,guard⟩ a K:=by
  have rx:=copd_rel ht hx
  have ry:=copd_rel ht hy
  simp only [AOp.sem] at hs
  split at hs
  · rename_i k1 n k2 c h1 h2
    rw [h1] at rx;rw [h2] at ry
    simp only [Rel] at rx ry
    obtain⟨q0,q1,q2,q3,hK⟩:=hs
    obtain⟨i',z,hi',hz0,hz1⟩:=info_zero hz
    have ei:i'=i:=by rw [hi] at hi';cases hi';rfl
    subst ei
    have hrel:RelL σ zs z.cells.toList:=scalarsAV_rel σ hz1
    have hzs:z.cells.size=i'.size:=by have:=hrel.length;simp at this;omega
    have hrun:=run_make (P:=P) w s e i' z hu hi hz0 k1 k2 n c q0 q1 q2 q3
    have hcells:(madeCells z.cells (c.toNat * i'.size)).toList=(List.replicate c.toNat z.cells.toList).flatten:=by rw [← hzs];exact madeCells_eq (by omega)
    have hal:=hk.alloc (tail:=[]) e (relL_rep hrel c.toNat)
    rw [List.append_nil,← hcells] at hal
    refine⟨.slice (some ⟨w.heap.size,0,none⟩) n.toNat c.toNat,_,[_],.slice h.length 0 n.toNat i'.size (decide (n=c)),_,.inl ?_,hal,?_,Grow.alloc hk.len _ _ _ rfl,hK⟩
    · simp [execOp,rx,ry,hrun]
    · refine .inr ⟨_,0,c.toNat,(by rw [← hk.len];simp;rfl),rfl,by omega,fun hd=>?_,?_⟩
      · simp at hd;omega
      · right
        refine⟨rfl,?_⟩
        have hl:=congrArg List.length hcells
        simp [List.length_flatten,hzs] at hl
        simp [hl]
  · cases hs
theorem run_appZ (w:World) (t tx ty e:TypeId) (i:TypeInfo) (z:Value) {ik:IntKind} (ht:P.underlying t=some (.slice e)) (hx:P.underlying tx=some (.int ik)) (hi:P.info? e=some i) (hz:i.zero=some z) (k:IntKind) (m:Nat) (h0:0<m) (h63:(m:Int)≤9223372036854775807) (hb:m * i.bytes≤140737488355328) (hsz:0<i.size) :
    (Builtin.append_ #[t,tx] ty #[.slice none 0 0,.int k m]).run P w=.ok (.slice (some ⟨w.heap.size,0,none⟩) m (grownCap w m 0 e)) (w.drew.alloc (.cells (Builtin.zeroCells z.cells m++Builtin.zeroCells z.cells (grownCap w m 0 e-m)) e)):=by
  have hn:¬ (m≤0):=by omega
  have hw:IntKind.i64.wrap (m:Int)=m:=by
    unfold IntKind.wrap
    simp [IntKind.bits,IntKind.signed]
    split <;> omega
  have h48:¬ ((281474976710656:Int)<(m:Int) * (i.bytes:Int)):=by
    have:((m * i.bytes:Nat):Int)=(m:Int) * (i.bytes:Int):=by simp
    omega
  have hc:Builtin.nextslicecap m 0=m:=by simp [Builtin.nextslicecap,h0]
  have h48':¬ (281474976710656<m * i.bytes):=by omega
  have hms:¬ (m * i.size=0):=by
    have:=Nat.mul_pos h0 hsz
    omega
  have hneg:¬ ((m:Int)<0):=by omega
  have hm0:¬ m=0:=by omega
  have hs0:¬ i.size=0:=by omega
  have hmi:¬ ((m:Int)≤0):=by omega
  have hmx:max (m:Int) 0=m:=by omega
  have h63':¬ (9223372036854775807<(m:Int)):=by omega
  simp [Builtin.append_,run_underlying ht,run_underlying hx,sizeOf,typeInfo,zeroValue,hi,hz,hn,hw,h48,h48',hc,hms,hneg,h63',hm0,hs0,hmi,hmx,asInt,asIntOf,Builtin.firstCells,Question.forced,newRow,grownCap]
theorem snd_appZ (hk:HeapOK P B σ h w) (ht:TOK σ t a) {s u e:TypeId} {i:TypeInfo} {ik:IntKind} {zs:List AV} {x y:Operand} {ax ay:AOpd} (hx:copd x=some ax) (hy:copd y=some ay)
    (hu:P.underlying s=some (.slice e)) (hui:P.underlying u=some (.int ik)) (hi:P.info? e=some i) (hz:tyZero P e=some zs) (hzl:zs.length=i.size) (hpos:0<i.size) (hby:0<i.bytes)
    {args:Array Operand} {ats:Array TypeId} (ha:args.toList=[x,y]) (hts:ats.toList=[s,u])
    (hs:(AOp.appZ zs i.size i.bytes ax ay).sem (AOpd.ev t) h K):Res P B σ h w ⟨dst,.call { callee:=.builtin .append,args,argTypes:=ats },ty,pos,after,guard⟩ a K:=by
  have rx:=copd_rel ht hx
  have ry:=copd_rel ht hy
  have e1:args=#[x,y]:=by apply Array.ext';simpa using ha
  have e2:ats=#[s,u]:=by apply Array.ext';simpa using hts
  subst e1;subst e2
  simp only [AOp.sem] at hs
  split at hs
  · rename_i k m h1 h2
    rw [h1] at rx;rw [h2] at ry
    simp only [Rel] at rx ry
    obtain⟨q0,q1,hK⟩:=hs
    obtain⟨n,rfl⟩:∃ n:Nat,m=n:=⟨m.toNat,by omega⟩
    simp only [Int.toNat_natCast] at q1 hK
    obtain⟨i',z,hi',hz0,hz1⟩:=info_zero hz
    have ei:i'=i:=by rw [hi] at hi';cases hi';rfl
    subst ei
    have hrel:RelL σ zs z.cells.toList:=scalarsAV_rel σ hz1
    have hzs:z.cells.size=i'.size:=by have:=hrel.length;simp at this;omega
    have h63:(n:Int)≤9223372036854775807:=by
      have:n≤n * i'.bytes:=Nat.le_mul_of_pos_right _ hby
      omega
    have hrun:=run_appZ (P:=P) (ty:=ty) w s u e i' z hu hui hi hz0 k n (by omega) h63 q1 hpos
    have hcells:(Builtin.zeroCells z.cells n).toList=(List.replicate n z.cells.toList).flatten:=madeCells_eq (by omega)
    have hk':HeapOK P B σ h w.drew:=hk.heap_eq rfl
    have hge:=grownCap_ge w n 0 e
    have hal:=hk'.alloc (tail:=(Builtin.zeroCells z.cells (grownCap w n 0 e-n)).toList) e (relL_rep hrel n)
    have e0:((List.replicate n z.cells.toList).flatten++(Builtin.zeroCells z.cells (grownCap w n 0 e-n)).toList).toArray=Builtin.zeroCells z.cells n++Builtin.zeroCells z.cells (grownCap w n 0 e-n):=by
      apply Array.ext';simp [hcells]
    rw [e0] at hal
    have hl:=congrArg List.length hcells
    refine⟨.slice (some ⟨w.heap.size,0,none⟩) n (grownCap w n 0 e),_,[_],.slice h.length 0 n i'.size false,_,.inl ?_,hal,?_,(Grow.drew σ h w).trans (Grow.alloc hk.len _ _ _ rfl),hK⟩
    · simp [execOp,resolve,invoke,builtin,rx,ry,hrun]
    · refine .inr ⟨_,0,_,by rw [← hk.len];simp;rfl,rfl,hge,(by intro hh;cases hh),.inr ⟨rfl,?_⟩⟩
      simp [hzs] at hl
      simp only [Nat.zero_add,size_zeroCells,hzs,← Nat.add_mul]
      exact Nat.mul_le_mul_right _ (by omega)
  · cases hs
end
end Go.Abs
/- Each abstract operation says what the model's operation does. Seventh part: maps. -/
namespace Go.Abs
open Go.RowKit
section
variable {P:Program} {B:Nat} {σ:Sg} {h:Heap} {w:World} {a:Act} {t:List (Nat × AV)} {K:AV→Heap→Prop}
variable {dst:Option Tmp} {ty:TypeId} {pos:String} {after:Array Edge} {guard:Option (Nat × Bool)}
/-! ### Keys -/
theorem eqAt_row {X Y:List AV}:∀ (os:List (Nat × CK)) (k:Nat) (x y:List AV) (r:Bool),os.map (·.1)=List.range' k os.length→X.drop k=x→Y.drop k=y→eqRow (os.map (·.2)) x y=some r→eqAt X Y os=some r
  | [],k,x,y,r,_,_,_,h=>by
    cases x <;> cases y <;> simp [eqRow] at h
    subst h;rfl
  | (o,c) :: os,k,x,y,r,h1,hx,hy,h=>by
    simp only [List.map_cons,List.length_cons,List.range'_succ,List.cons.injEq] at h1
    obtain⟨rfl,h1⟩:=h1
    cases x with
    | nil=>simp [eqRow] at h
    | cons x xs =>
      cases y with
      | nil=>simp [eqRow] at h
      | cons y ys =>
        simp only [List.map_cons,eqRow] at h
        split at h
        · rename_i r1 t1 e1 e2
          simp only [Option.some.injEq] at h;subst h
          have gx:X[o]?=some x:=by have:=congrArg (·[0]?) hx;simpa using this
          have gy:Y[o]?=some y:=by have:=congrArg (·[0]?) hy;simpa using this
          have dx:X.drop (o+1)=xs:=by rw [← List.drop_drop,hx];rfl
          have dy:Y.drop (o+1)=ys:=by rw [← List.drop_drop,hy];rfl
          have ih:=eqAt_row os (o+1) xs ys t1 h1 dx dy e2
          simp only [eqAt,gx,gy,ih,e1]
        · cases h
theorem bytes_eq {a b:ByteArray} (h:(a.toList == b.toList)=true):a=b:=by
  have h':a.toList=b.toList:=by simpa using h
  have:=(beq_toListBytes a b).trans h
  exact (MapKept.bytes_beq a b).1 this
theorem eqCell_true {c:CK} {x y:AV} (h:eqCell c x y=some true):x=y∧∀ {u v:Value},Rel σ x u→Rel σ y v→u=v∧∀ n,Instr.sameBits n v v=true:=by
  unfold eqCell at h
  split at h
  · split at h
    · rename_i hk
      subst hk
      simp only [Option.some.injEq,decide_eq_true_eq] at h;subst h
      exact⟨rfl,fun hu hv=>by simp only [Rel] at hu hv;subst hu;subst hv;exact⟨rfl,fun n=>by simp [Instr.sameBits]⟩⟩
    · cases h
  · simp only [Option.some.injEq,beq_iff_eq] at h;subst h
    exact⟨rfl,fun hu hv=>by simp only [Rel] at hu hv;subst hu;subst hv;exact⟨rfl,fun n=>by simp [Instr.sameBits]⟩⟩
  · simp only [Option.some.injEq] at h
    have:=bytes_eq h
    subst this
    exact⟨rfl,fun hu hv=>by simp only [Rel] at hu hv;subst hu;subst hv;exact⟨rfl,fun n=>by simp [Instr.sameBits,MapKept.bytes_beq]⟩⟩
  · cases h
theorem eqRow_true:∀ {cs:List CK} {x y:List AV},eqRow cs x y=some true→x=y∧∀ {u v:List Value},RelL σ x u→RelL σ y v→u=v∧∀ n,∀ p∈v.zip v,Instr.sameBits n p.1 p.2=true
  | [],[],[],_=>⟨rfl,fun hu hv=>by simp only [RelL] at hu hv;subst hu;subst hv;exact⟨rfl,by simp⟩⟩
  | c :: cs,x :: xs,y :: ys,h=>by
    simp only [eqRow] at h
    split at h
    · rename_i r1 t1 e1 e2
      simp only [Option.some.injEq,Bool.and_eq_true] at h
      obtain⟨rfl,rfl⟩:=h
      obtain⟨rfl,k1⟩:=eqCell_true (σ:=σ) e1
      obtain⟨rfl,k2⟩:=eqRow_true e2
      refine⟨rfl,fun hu hv=>?_⟩
      obtain⟨u,us,rfl,a1,a2⟩:=hu
      obtain⟨v,vs,rfl,b1,b2⟩:=hv
      obtain⟨rfl,s1⟩:=k1 a1 b1
      obtain⟨rfl,s2⟩:=k2 a2 b2
      refine⟨rfl,fun n p hp=>?_⟩
      simp only [List.zip_cons_cons,List.mem_cons] at hp
      rcases hp with rfl|hp
      · exact s1 n
      · exact s2 n p hp
    · cases h
  | [],[],_ :: _,h|[],_ :: _,_,h|_ :: _,[],_,h|_ :: _,_ :: _,[],h=>by simp [eqRow] at h
theorem keyEq_true {k:KK} {x y:AV} (h:keyEq k x y=some true) {u v:Value} (hu:Rel σ x u) (hv:Rel σ y v):u=v∧Instr.sameBits 10000 v v=true:=by
  unfold keyEq at h
  split at h
  · obtain⟨_,k1⟩:=eqCell_true (σ:=σ) h
    exact⟨(k1 hu hv).1,(k1 hu hv).2 _⟩
  · obtain⟨_,k1⟩:=eqRow_true (σ:=σ) h
    obtain⟨a,rfl,ha⟩:=hu
    obtain⟨b,rfl,hb⟩:=hv
    obtain⟨e,s⟩:=k1 ha hb
    have:a=b:=Array.ext' e
    subst this
    refine⟨rfl,?_⟩
    show Instr.sameBits (9999+1) _ _=true
    simp only [Instr.sameBits,beq_self_eq_true,Bool.true_and,List.all_eq_true]
    exact fun p hp=>s 9999 p hp
  · cases h
inductive KeyIs (P:Program) (t:TypeId):KK→Prop
  | one (c:CK) (h:CKOf P t c):KeyIs P t (.one c)
  | row (os:List (Nat × CK)) (h1:eqOffs P 20 t=some os) (h2:os.map (·.1)=List.range' 0 os.length) (h3:tyAgg P t=some true):KeyIs P t (.row (os.map (·.2)))
theorem keyKind_is {t:TypeId} {k:KK} (h:keyKind P t=some k):KeyIs P t k:=by
  have row:∀ {o:Option (List (Nat × CK))},eqOffs P 20 t=o→(match o with
    | some os=>if os.map (·.1)=List.range os.length∧tyAgg P t=some true then some (KK.row (os.map (·.2))) else none
    | none=>none)=some k→KeyIs P t k:=by
    intro o ho h
    split at h
    · split at h
      · rename_i hc
        simp only [Option.some.injEq] at h;subst h
        exact .row _ ho (by rw [hc.1,List.range_eq_range']) hc.2
      · cases h
    · cases h
  unfold keyKind at h
  split at h
  · rename_i hu;simp only [Option.some.injEq] at h;subst h;exact .one _ ⟨_,hu⟩
  · rename_i hu;simp only [Option.some.injEq] at h;subst h;exact .one _ hu
  · rename_i hu;simp only [Option.some.injEq] at h;subst h;exact .one _ hu
  · exact row rfl h
  · exact row rfl h
  · cases h
theorem check_fields {n d:Nat} {em:Bool} (ih:∀ (e:TypeId) (offs:List (Nat × CK)),eqOffs P n e=some offs→∀ (u:Value) (x:List AV) (r:Bool),
    Fit P e u x→RelL σ x u.cells.toList→eqAt x x offs=some r→(Instr.checkKey em d e u).run P w=.ok () w)
    {p:Array Value} {x:List AV} (hx:RelL σ x p.toList) :
    ∀ (fs:List Field) (offs:List (Nat × CK)) (r:Bool),fs.foldr (fun f r=>match eqOffs P n f.type,tySize P f.type,r with
        | some os,some sz,some r=>if f.name≠"_"∧os.all (fun o=>decide (o.1<sz))=true then some (os.map (fun o=>(f.offset+o.1,o.2))++r) else none
        | _,_,_=>none) (some [])=some offs→eqAt x x offs=some r →
      ((forIn fs PUnit.unit fun f _=>if f.name≠"_" then (do
          let q ← part f.type p f.offset
          Instr.checkKey em d f.type q
          pure (ForInStep.yield PUnit.unit)) else pure (ForInStep.yield PUnit.unit):Sem PUnit)).run P w=.ok PUnit.unit w
  | [],offs,r,h,hr=>by simp
  | f :: fs,offs,r,h,hr=>by
    simp only [List.foldr_cons] at h
    split at h
    · rename_i os sz rr h1 h2 h3
      split at h
      · rename_i hc
        simp only [Option.some.injEq] at h;subst h
        obtain⟨r1,r2,g1,g2,rfl⟩:=eqAt_append hr
        rw [eqAt_shift f.offset sz hc.2] at g1
        have rest:=check_fields ih hx fs rr r2 h3 g2
        obtain⟨u,e1,k1,f1⟩:=part_fit hx h1 h2 (w:=w) (.inl g1)
        have e3:=ih _ _ h1 u _ r1 f1 k1 g1
        simp only [List.forIn_cons,Sem.run_bind,ne_eq,hc.1,not_false_eq_true,if_true,e1,e3,Result.andThen_ok,Sem.run_pure]
        simpa using rest
      · cases h
    · cases h
theorem check_items {n d:Nat} {em:Bool} (ih:∀ (e:TypeId) (offs:List (Nat × CK)),eqOffs P n e=some offs→∀ (u:Value) (x:List AV) (r:Bool),
    Fit P e u x→RelL σ x u.cells.toList→eqAt x x offs=some r→(Instr.checkKey em d e u).run P w=.ok () w)
    {p:Array Value} {x:List AV} (hx:RelL σ x p.toList) {e:TypeId} {os:List (Nat × CK)} {sz:Nat} (h1:eqOffs P n e=some os) (h2:tySize P e=some sz)
    (ha:os.all (fun o=>decide (o.1<sz))=true) :
    ∀ (is:List Nat) (r:Bool),eqAt x x (is.flatMap fun i=>os.map (fun o=>(i * sz+o.1,o.2)))=some r →
      ((forIn is PUnit.unit fun i _ => do
        let c ← sizeOf e
        let q ← part e p (i * c)
        Instr.checkKey em d e q
        pure (ForInStep.yield PUnit.unit):Sem PUnit)).run P w=.ok PUnit.unit w
  | [],r,hr=>by simp
  | i :: is,r,hr=>by
    simp only [List.flatMap_cons] at hr
    obtain⟨r1,r2,g1,g2,rfl⟩:=eqAt_append hr
    rw [eqAt_shift (i * sz) sz ha] at g1
    have rest:=check_items ih hx h1 h2 ha is r2 g2
    obtain⟨u,e1,k1,f1⟩:=part_fit hx h1 h2 (w:=w) (.inl g1)
    have e3:=ih _ _ h1 u _ r1 f1 k1 g1
    simp only [List.forIn_cons,Sem.run_bind,size_run h2,e1,e3,Result.andThen_ok,Sem.run_pure]
    simpa [size_run h2] using rest
theorem check_int {em:Bool} {t:TypeId} {k:IntKind} (hu:P.underlying t=some (.int k)) {u:Value} (d:Nat):(Instr.checkKey em (d+1) t u).run P w=.ok () w:=by
  simp [Instr.checkKey,run_underlying hu]
theorem check_bool {em:Bool} {t:TypeId} (hu:P.underlying t=some .bool) {u:Value} (d:Nat):(Instr.checkKey em (d+1) t u).run P w=.ok () w:=by
  simp [Instr.checkKey,run_underlying hu]
theorem check_str {em:Bool} {t:TypeId} (hu:P.underlying t=some .string) {u:Value} (d:Nat):(Instr.checkKey em (d+1) t u).run P w=.ok () w:=by
  simp [Instr.checkKey,run_underlying hu]
theorem check_sound {em:Bool}:∀ (n:Nat) (d:Nat),n≤d→∀ (e:TypeId) (offs:List (Nat × CK)),eqOffs P n e=some offs→∀ (u:Value) (x:List AV) (r:Bool),
    Fit P e u x→RelL σ x u.cells.toList→eqAt x x offs=some r→(Instr.checkKey em d e u).run P w=.ok () w
  | 0,_,_,_,_,h,_,_,_,_,_,_=>by simp [eqOffs] at h
  | n+1,d,hd,e,offs,h,u,x,r,fx,hx,hr=>by
    obtain⟨d,rfl⟩:∃ d',d=d'+1:=⟨d-1,by omega⟩
    rcases eqOffs_cases h with⟨c,rfl,_,hag,hck⟩|hag
    · cases c with
      | int=>obtain⟨k,hu⟩:=hck;exact check_int hu d
      | bool=>exact check_bool hck d
      | str=>exact check_str hck d
    · obtain⟨p,rfl⟩:=fx.1 hag
      have ih:=fun e offs h u x r a b c=>check_sound (em:=em) n d (by omega) e offs h u x r a b c
      simp only [eqOffs] at h
      split at h
      · rename_i hu;simp [tyAgg,hu] at hag
      · rename_i hu;simp [tyAgg,hu] at hag
      · rename_i hu;simp [tyAgg,hu] at hag
      · rename_i fields hu
        split at h
        · cases h
        · have:=check_fields (p:=p) ih hx _ _ _ h hr
          simp only [Instr.checkKey,Sem.run_bind,run_underlying hu,Result.andThen_ok]
          rw [← Array.forIn_toList]
          rw [this];simp
      · rename_i m e' hu
        split at h
        · rename_i os sz h1 h2
          split at h
          · rename_i ha
            simp only [Option.some.injEq] at h;subst h
            have:=check_items (p:=p) ih hx h1 h2 ha _ _ hr
            simp only [Instr.checkKey,Sem.run_bind,run_underlying hu,Result.andThen_ok]
            simp only [Std.Legacy.Range.forIn_eq_forIn_range',Std.Legacy.Range.size,Nat.sub_zero,Nat.add_one_sub_one,Nat.div_one]
            rw [← List.range_eq_range']
            rw [this];simp
          · cases h
        · cases h
      · cases h
theorem key_check {em:Bool} {t:TypeId} {k:KK} (hk:KeyIs P t k) {x:AV} {u:Value} (hu:Rel σ x u) (h:(keyEq k x x).isSome=true):(Instr.checkKey em 10000 t u).run P w=.ok () w:=by
  cases hk with
  | one c hc =>
    cases c with
    | int=>obtain⟨k,hu⟩:=hc;exact check_int hu 9999
    | bool=>exact check_bool hc 9999
    | str=>exact check_str hc 9999
  | row os h1 h2 h3 =>
    cases x with
    | agg p =>
      obtain⟨r,hr⟩:=Option.isSome_iff_exists.1 h
      obtain⟨a,rfl,ha⟩:=hu
      exact check_sound 20 10000 (by omega) t os h1 _ _ r ⟨fun _=>⟨_,rfl⟩,fun hh=>by rw [h3] at hh;cases hh⟩ ha (eqAt_row os 0 _ _ r h2 rfl rfl hr)
    | _=>simp [keyEq] at h
theorem key_equal {t:TypeId} {os:List (Nat × CK)} (h1:eqOffs P 20 t=some os) (h2:os.map (·.1)=List.range' 0 os.length) (h3:tyAgg P t=some true) {x y:AV} {u v:Value} (hu:Rel σ x u) (hv:Rel σ y v) {r:Bool}
    (h:keyEq (.row (os.map (·.2))) x y=some r):(Op.equal t u v).run P w=.ok r w:=by
  unfold keyEq at h
  split at h
  · rename_i hk;cases hk
  · rename_i cs p q hk
    cases hk
    obtain⟨a,rfl,ha⟩:=hu
    obtain⟨b,rfl,hb⟩:=hv
    exact equal_sound 20 10000 (by omega) t os h1 _ _ _ _ r ⟨fun _=>⟨_,rfl⟩,fun hh=>by rw [h3] at hh;cases hh⟩ ⟨fun _=>⟨_,rfl⟩,fun hh=>by rw [h3] at hh;cases hh⟩ ha hb (eqAt_row os 0 _ _ r h2 rfl rfl h)
  · cases h
theorem same_now {t:TypeId} {c:CK} (hc:CKOf P t c) {d:TypeDesc} (hd:P.underlying t=some d) {x y:AV} {u v:Value} (hu:Rel σ x u) (hv:Rel σ y v) {r:Bool} (h:eqCell c x y=some r):Instr.sameNow d u v=some r:=by
  unfold eqCell at h
  split at h
  · simp only [Rel] at hu hv;subst hu;subst hv
    obtain⟨k,hk⟩:=hc
    rw [hd] at hk;cases hk
    split at h
    · rename_i hkk
      simp only [Option.some.injEq] at h;subst h
      simp only [Instr.sameNow,hkk,if_true];congr 1
    · cases h
  · simp only [Rel] at hu hv;subst hu;subst hv
    have hk:P.underlying t=some .bool:=hc
    rw [hd] at hk;cases hk
    exact h
  · simp only [Rel] at hu hv;subst hu;subst hv
    have hk:P.underlying t=some .string:=hc
    rw [hd] at hk;cases hk
    simp only [Instr.sameNow,beq_toListBytes];exact h
  · cases h
/-! ### Entries -/
theorem RelE.length:∀ {es:List (AV × AV)} {l:List MapEntry},RelE σ es l→es.length=l.length
  | [],_,h=>by simp only [RelE] at h;subst h;rfl
  | (_,_) :: es,_,⟨e,l',h1,_,_,h4⟩=>by subst h1;simp [RelE.length h4]
theorem RelE.get:∀ {es:List (AV × AV)} {l:List MapEntry},RelE σ es l→∀ {i:Nat} {p:AV × AV},es[i]?=some p→∃ e,l[i]?=some e∧Rel σ p.1 e.key∧Rel σ p.2 e.val
  | [],_,_,i,p,hp=>by simp at hp
  | (_,_) :: es,_,⟨e,l',h1,h2,h3,h4⟩,0,p,hp=>by
    simp only [List.getElem?_cons_zero,Option.some.injEq] at hp;subst hp;subst h1
    exact⟨e,rfl,h2,h3⟩
  | (_,_) :: es,_,⟨e,l',h1,h2,h3,h4⟩,i+1,p,hp=>by
    subst h1
    obtain⟨e',g1,g2⟩:=RelE.get h4 (by simpa using hp)
    exact⟨e',by simpa using g1,g2⟩
theorem RelE.push:∀ {es:List (AV × AV)} {l:List MapEntry},RelE σ es l→∀ {x y:AV} {e:MapEntry},Rel σ x e.key→Rel σ y e.val→RelE σ (es++[(x,y)]) (l++[e])
  | [],_,h,x,y,e,hx,hy=>by simp only [RelE] at h;subst h;exact⟨e,[],rfl,hx,hy,rfl⟩
  | (_,_) :: es,_,⟨e',l',h1,h2,h3,h4⟩,x,y,e,hx,hy=>by subst h1;exact⟨e',_,rfl,h2,h3,RelE.push h4 hx hy⟩
theorem RelE.modify:∀ {es:List (AV × AV)} {l:List MapEntry},RelE σ es l→∀ {i:Nat} {x y:AV} {f:MapEntry→MapEntry},(∀ e,l[i]?=some e→Rel σ x (f e).key∧Rel σ y (f e).val)→RelE σ (es.set i (x,y)) (l.modify i f)
  | [],_,h,i,x,y,f,hf=>by simp only [RelE] at h;subst h;simp [RelE]
  | (_,_) :: es,_,⟨e,l',h1,h2,h3,h4⟩,0,x,y,f,hf=>by
    subst h1
    obtain⟨g1,g2⟩:=hf e rfl
    exact⟨f e,l',rfl,g1,g2,h4⟩
  | (_,_) :: es,_,⟨e,l',h1,h2,h3,h4⟩,i+1,x,y,f,hf=>by
    subst h1
    exact⟨e,_,rfl,h2,h3,RelE.modify h4 fun e' he'=>hf e' (by simpa using he')⟩
theorem RelE.erase:∀ {es:List (AV × AV)} {l:List MapEntry},RelE σ es l→∀ (i:Nat),RelE σ (es.eraseIdx i) (l.eraseIdx i)
  | [],_,h,i=>by simp only [RelE] at h;subst h;simp [RelE]
  | (_,_) :: es,_,⟨e,l',h1,h2,h3,h4⟩,0=>by subst h1;exact h4
  | (_,_) :: es,_,⟨e,l',h1,h2,h3,h4⟩,i+1=>by subst h1;exact⟨e,_,rfl,h2,h3,RelE.erase h4 i⟩
theorem find_now {t:TypeId} {c:CK} (hc:CKOf P t c) {d:TypeDesc} (hd:P.underlying t=some d) {x:AV} {u:Value} (hu:Rel σ x u):∀ {es:List (AV × AV)} {l:List MapEntry},RelE σ es l→∀ {r:Option Nat},findA (.one c) x es=some r→∀ i0,
    match r with
    | none=>Instr.findNow d u l i0=some none
    | some i=>∃ p e,es[i]?=some p∧l[i]?=some e∧keyEq (.one c) x p.1=some true∧Instr.findNow d u l i0=some (some (i0+i,e.val))
  | [],l,h,r,hr,i0=>by
    simp only [RelE] at h;subst h
    simp only [findA,Option.some.injEq] at hr;subst hr;rfl
  | (a,b) :: es,l,⟨e,l',h1,h2,h3,h4⟩,r,hr,i0=>by
    subst h1
    simp only [findA] at hr
    split at hr
    · rename_i he
      simp only [Option.some.injEq] at hr;subst hr
      exact⟨_,e,rfl,rfl,he,by simp [Instr.findNow,same_now hc hd hu h2 he]⟩
    · rename_i he
      have hs:=same_now hc hd hu h2 he
      split at hr
      · rename_i i hf
        simp only [Option.some.injEq] at hr;subst hr
        obtain⟨p,e',g1,g2,g3,g4⟩:=find_now hc hd hu h4 hf (i0+1)
        exact⟨p,e',by simpa using g1,by simpa using g2,g3,by simp only [Instr.findNow,hs,g4];congr 3;omega⟩
      · rename_i hf
        simp only [Option.some.injEq] at hr;subst hr
        have:=find_now hc hd hu h4 hf (i0+1)
        simp only [Instr.findNow,hs];exact this
      · cases hr
    · cases hr
theorem find_ask {t:TypeId} {os:List (Nat × CK)} (h1:eqOffs P 20 t=some os) (h2:os.map (·.1)=List.range' 0 os.length) (h3:tyAgg P t=some true) {x:AV} {u:Value} (hu:Rel σ x u) :
    ∀ {es:List (AV × AV)} {l:List MapEntry},RelE σ es l→∀ {r:Option Nat},findA (.row (os.map (·.2))) x es=some r→∀ i0,
    match r with
    | none=>(Instr.findAsking t u l i0).run P w=.ok none w
    | some i=>∃ p e,es[i]?=some p∧l[i]?=some e∧keyEq (.row (os.map (·.2))) x p.1=some true∧(Instr.findAsking t u l i0).run P w=.ok (some (i0+i,e.val)) w
  | [],l,h,r,hr,i0=>by
    simp only [RelE] at h;subst h
    simp only [findA,Option.some.injEq] at hr;subst hr;simp [Instr.findAsking]
  | (a,b) :: es,l,⟨e,l',g1,g2,g3,g4⟩,r,hr,i0=>by
    subst g1
    simp only [findA] at hr
    split at hr
    · rename_i he
      simp only [Option.some.injEq] at hr;subst hr
      exact⟨_,e,rfl,rfl,he,by simp [Instr.findAsking,key_equal h1 h2 h3 hu g2 he]⟩
    · rename_i he
      have hs:=key_equal (w:=w) h1 h2 h3 hu g2 he
      split at hr
      · rename_i i hf
        simp only [Option.some.injEq] at hr;subst hr
        obtain⟨p,e',k1,k2,k3,k4⟩:=find_ask h1 h2 h3 hu g4 hf (i0+1)
        refine⟨p,e',by simpa using k1,by simpa using k2,k3,?_⟩
        simp only [Instr.findAsking,Sem.run_bind,hs,Result.andThen_ok,Bool.false_eq_true,if_false,k4]
        congr 3;omega
      · rename_i hf
        simp only [Option.some.injEq] at hr;subst hr
        have:=find_ask h1 h2 h3 hu g4 hf (i0+1)
        simp only [Instr.findAsking,Sem.run_bind,hs,Result.andThen_ok,Bool.false_eq_true,if_false];exact this
      · cases hr
    · cases hr
theorem find_sound {t:TypeId} {k:KK} (hk:KeyIs P t k) {x:AV} {u:Value} (hu:Rel σ x u) {es:List (AV × AV)} {l:List MapEntry} (he:RelE σ es l) {r:Option Nat} (hr:findA k x es=some r) :
    match r with
    | none=>(Instr.findKey t u l).run P w=.ok none w
    | some i=>∃ p e,es[i]?=some p∧l[i]?=some e∧keyEq k x p.1=some true∧(Instr.findKey t u l).run P w=.ok (some (i,e.val)) w:=by
  cases hk with
  | one c hc =>
    obtain⟨d,hd⟩:∃ d,P.underlying t=some d:=by
      cases c with
      | int=>obtain⟨k,h⟩:=hc;exact⟨_,h⟩
      | bool=>exact⟨_,hc⟩
      | str=>exact⟨_,hc⟩
    have:=find_now hc hd hu he hr 0
    cases r with
    | none=>exact MapKept.run_findKey hd this
    | some i =>
      obtain⟨p,e,g1,g2,g3,g4⟩:=this
      exact⟨p,e,g1,g2,g3,MapKept.run_findKey hd (by simpa using g4)⟩
  | row os h1 h2 h3 =>
    have hw:(match P.underlying t with|some (.array _ _)|some (.struct _)=>true|_=>false)=true:=by
      unfold tyAgg at h3
      split at h3
      · rename_i hu;simp [hu]
      · rename_i hu;simp [hu]
      · cases h3
      · cases h3
    have:=find_ask (w:=w) h1 h2 h3 hu he hr 0
    cases r with
    | none=>rw [run_findKey_eq w hw];exact this
    | some i =>
      obtain⟨p,e,g1,g2,g3,g4⟩:=this
      exact⟨p,e,g1,g2,g3,by rw [run_findKey_eq w hw];simpa using g4⟩
/-! ### Operations -/
theorem mapKind_is {t:TypeId} {k:KK} {z:AV} (h:mapKind P t=some (k,z)):∃ kt et i zv,P.underlying t=some (.map kt et)∧KeyIs P kt k∧P.info? et=some i∧i.zero=some zv∧Rel σ z zv:=by
  unfold mapKind at h
  split at h
  · rename_i kt et hu
    split at h
    · rename_i kk zv h1 h2
      split at h
      · rename_i z' hz
        simp only [Option.some.injEq,Prod.mk.injEq] at h
        obtain⟨rfl,rfl⟩:=h
        obtain⟨i,hi,h2⟩:=Option.bind_eq_some_iff.1 h2
        exact⟨kt,et,i,zv,hu,keyKind_is h1,hi,h2,constAV_rel σ hz⟩
      · cases h
    · cases h
  · cases h
theorem mapAt_is (hk:HeapOK P B σ h w) {x:AV} {u:Value} (hu:Rel σ x u) {es:List (AV × AV)} (hm:mapAt h x=some es) :
    (u=.map none∧es=[])∨∃ r arr clock,u=.map (some r)∧w.heap[r]?=some (.map arr clock)∧RelE σ es arr.toList:=by
  unfold mapAt at hm
  split at hm
  · simp only [Option.some.injEq] at hm;exact .inl ⟨hu,hm.symm⟩
  · split at hm
    · rename_i es' hi
      simp only [Option.some.injEq] at hm;subst hm
      obtain⟨l,hl,hv⟩:=hu
      obtain⟨_,_,_,arr,h3,h4,_⟩:=hk.obj _ _ _ hi hl
      exact .inr ⟨_,arr,_,hv,h3,h4⟩
    · cases hm
  · cases hm
theorem snd_makeMap (hk:HeapOK P B σ h w) {s:TypeId} (hs:AOp.makeMap.sem (AOpd.ev t) h K):Res P B σ h w ⟨dst,.makeMap s none,ty,pos,after,guard⟩ a K:=by
  simp only [AOp.sem] at hs
  have hal:=hk.allocO (x:=.map [] [] 0) (.map #[] 0) 0 ⟨#[],rfl,rfl,rfl⟩
  refine⟨.map (some w.heap.size),_,[_],.map h.length,_,.inl ?_,hal,⟨⟨w.heap.size,0,0⟩,by rw [← hk.len];simp,rfl⟩,Grow.alloc hk.len _ _ _ rfl,hs⟩
  simp [execOp,Instr.makeMap]
theorem snd_mapGet (hk:HeapOK P B σ h w) (ht:TOK σ t a) {s:TypeId} {ok:Bool} {k:KK} {z:AV} {m i:Operand} {am ai:AOpd} (hm:copd m=some am) (hi:copd i=some ai) (hmk:mapKind P s=some (k,z))
    (hs:(AOp.mapGet ok z k am ai).sem (AOpd.ev t) h K):Res P B σ h w ⟨dst,.lookup s m i ok,ty,pos,after,guard⟩ a K:=by
  have rm:=copd_rel ht hm
  have ri:=copd_rel ht hi
  obtain⟨kt,et,info,zv,hu,hkt,hinf,hz,hzr⟩:=mapKind_is (σ:=σ) hmk
  simp only [AOp.sem] at hs
  obtain⟨hfit,hs⟩:=hs
  have hchk:∀ em,(Instr.checkKey em 10000 kt (a.eval i)).run P w=.ok () w:=fun em=>key_check hkt ri hfit
  split at hs
  · rename_i es hes
    have hzero:(zeroValue et).run P w=.ok zv w:=by simp [zeroValue,typeInfo,hinf,hz]
    rcases mapAt_is hk rm hes with⟨e1,rfl⟩|⟨r,arr,clock,e1,hb,hre⟩
    · simp only [findA] at hs
      have hf:(Instr.findKey kt (a.eval i) (#[]:Array MapEntry).toList).run P w=.ok none w:=find_sound (w:=w) hkt ri (es:=[]) (l:=[]) rfl (r:=none) rfl
      refine Res.pure hk (c:=if ok=true then .tuple #[zv,.bool false] else zv) ?_ ?_ hs
      · simp [execOp,Instr.lookup,run_underlying hu,e1,hchk,hzero,show (Instr.findKey kt (a.eval i) []).run P w=.ok none w from hf]
      · cases ok
        · exact hzr
        · exact⟨_,rfl,_,_,rfl,hzr,_,_,rfl,rfl,rfl⟩
    · have hg:=MapKept.run_getObj_map (P:=P) hb
      split at hs
      · rename_i n hfa
        split at hs
        · rename_i p hp
          obtain⟨p',e,g1,g2,g3,g4⟩:=find_sound (w:=w) hkt ri hre hfa
          obtain⟨e',q1,q2,q3⟩:=hre.get hp
          have:e'=e:=by rw [g2] at q1;exact (Option.some.inj q1).symm
          subst this
          refine Res.pure hk (c:=if ok=true then .tuple #[e'.val,.bool true] else e'.val) ?_ ?_ hs
          · simp [execOp,Instr.lookup,run_underlying hu,e1,hg,hchk,g4]
          · cases ok
            · exact q3
            · exact⟨_,rfl,_,_,rfl,q3,_,_,rfl,rfl,rfl⟩
        · cases hs
      · rename_i hfa
        have hf:=find_sound (w:=w) hkt ri hre hfa
        refine Res.pure hk (c:=if ok=true then .tuple #[zv,.bool false] else zv) ?_ ?_ hs
        · simp [execOp,Instr.lookup,run_underlying hu,e1,hg,hchk,hzero,hf]
        · cases ok
          · exact hzr
          · exact⟨_,rfl,_,_,rfl,hzr,_,_,rfl,rfl,rfl⟩
      · cases hs
  · cases hs
theorem map_put (hk:HeapOK P B σ h w) {id:Nat} {es es':List (AV × AV)} {bs bs':List Nat} {c c':Nat} {l:Loc} (hi:h[id]?=some (.other (.map es bs c))) (hl:σ[id]?=some (some l)) {arr:Array MapEntry} (hb:w.heap[l.blk]?=some (.map arr c))
    (arr':Array MapEntry) (hr:RelE σ es' arr'.toList) (hbs:arr'.toList.map (·.born)=bs') :
    HeapOK P B (σ++[]) (h.set id (.other (.map es' bs' c'))) (w.putObj l.blk (.map arr' c'))∧Grow σ h w (σ++[]) (h.set id (.other (.map es' bs' c'))) (w.putObj l.blk (.map arr' c')):=by
  rw [List.append_nil]
  refine⟨hk.put hi hl _ ⟨arr',rfl,hr,hbs⟩,Grow.put hi rfl hl _ (Ctl.putObj w _ hb ?_ ?_)⟩
  · intro r e;cases e
  · intro d e;cases e
theorem erase_map:∀ (l:List MapEntry) (n:Nat),(l.eraseIdx n).map (·.born)=(l.map (·.born)).eraseIdx n
  | [],n=>by simp
  | e :: l,0=>rfl
  | e :: l,n+1=>by simp [erase_map l n]
theorem modify_born (arr:Array MapEntry) (n:Nat) (f:MapEntry→MapEntry) (hf:∀ e,(f e).born=e.born:=by intro e;rfl):(arr.modify n f).toList.map (·.born)=arr.toList.map (·.born):=by
  apply List.ext_getElem?
  intro j
  simp only [List.getElem?_map,Array.getElem?_toList,Array.getElem?_modify]
  by_cases hj:n=j
  · subst hj
    cases arr[n]? with
    | none=>simp
    | some e=>simp [hf e]
  · simp [hj]
theorem map_same (hk:HeapOK P B σ h w):HeapOK P B (σ++[]) h w∧Grow σ h w (σ++[]) h w:=by
  rw [List.append_nil];exact⟨hk,Grow.refl _ _ _⟩
theorem snd_mapPut (hk:HeapOK P B σ h w) (ht:TOK σ t a) {s:TypeId} {k:KK} {z:AV} {m i x:Operand} {am ai ax:AOpd} (hm:copd m=some am) (hi:copd i=some ai) (hx:copd x=some ax) (hmk:mapKind P s=some (k,z))
    (hs:(AOp.mapPut k am ai ax).sem (AOpd.ev t) h K):Res P B σ h w ⟨dst,.mapUpdate s m i x,ty,pos,after,guard⟩ a K:=by
  have rm:=copd_rel ht hm
  have ri:=copd_rel ht hi
  have rx:=copd_rel ht hx
  obtain⟨kt,et,info,zv,hu,hkt,hinf,hz,hzr⟩:=mapKind_is (σ:=σ) hmk
  simp only [AOp.sem] at hs
  obtain⟨hfit,hs⟩:=hs
  have hchk:∀ em,(Instr.checkKey em 10000 kt (a.eval i)).run P w=.ok () w:=fun em=>key_check hkt ri hfit
  split at hs
  · rename_i id hid
    split at hs
    · rename_i es bs clock hes
      rw [hid] at rm
      obtain⟨l,hl,hv⟩:=rm
      obtain⟨_,_,_,arr,hb,hre,hbn⟩:=hk.obj _ _ _ hes hl
      have hg:=MapKept.run_getObj_map (P:=P) hb
      split at hs
      · rename_i n hfa
        obtain⟨p,e,g1,g2,g3,g4⟩:=find_sound (w:=w) hkt ri hre hfa
        obtain⟨e',q1,q2,q3⟩:=hre.get g1
        have:e'=e:=by rw [g2] at q1;exact (Option.some.inj q1).symm
        subst this
        obtain⟨hkey,hbits⟩:=keyEq_true g3 ri q2
        have hst:(Instr.keyThatStays e'.key (a.eval i)).run P w=.ok (a.eval i) w:=by
          rw [hkey];simp [Instr.keyThatStays,hbits]
        have ge:arr[n]?=some e':=by simpa using g2
        obtain⟨m1,m2⟩:=map_put (c':=clock) (bs':=bs) hk hes hl hb (arr.modify n fun e=>{ e with key:=a.eval i,val:=a.eval x }) (es':=es.set n (ai.ev t,ax.ev t)) (by
          rw [Array.toList_modify]
          exact hre.modify fun e he=>⟨ri,rx⟩) (by rw [← hbn];exact modify_born _ _ _)
        refine⟨undef,_,[],.tuple [],_,.inr ⟨rfl,?_⟩,m1,⟨#[],rfl,rfl⟩,m2,hs⟩
        simp [execOp,Instr.mapUpdate,run_underlying hu,hv,hg,hchk,g4,ge,hst,MapKept.run_setObj_map _ hb,World.putObj]
      · rename_i hfa
        have hf:=find_sound (w:=w) hkt ri hre hfa
        obtain⟨m1,m2⟩:=map_put (c':=clock+1) (bs':=bs++[clock]) hk hes hl hb (arr.push { key:=a.eval i,val:=a.eval x,born:=clock }) (es':=es++[(ai.ev t,ax.ev t)]) (by
          rw [Array.toList_push];exact hre.push ri rx) (by simp [hbn])
        refine⟨undef,_,[],.tuple [],_,.inr ⟨rfl,?_⟩,m1,⟨#[],rfl,rfl⟩,m2,hs⟩
        simp [execOp,Instr.mapUpdate,run_underlying hu,hv,hg,hchk,hf,MapKept.run_setObj_map _ hb,World.putObj]
      · cases hs
    · cases hs
  · cases hs
theorem snd_insert (hk:HeapOK P B σ h w) (ht:TOK σ t a) {s:TypeId} {k:KK} {z:AV} {m i x:Operand} {am ai ax:AOpd} (hm:copd m=some am) (hi:copd i=some ai) (hx:copd x=some ax) (hmk:mapKind P s=some (k,z))
    (hs:(AOp.mapPut k am ai ax).sem (AOpd.ev t) h K):Res P B σ h w ⟨dst,.insert s m i x,ty,pos,after,guard⟩ a K:=by
  have rm:=copd_rel ht hm
  have ri:=copd_rel ht hi
  have rx:=copd_rel ht hx
  obtain⟨kt,et,info,zv,hu,hkt,hinf,hz,hzr⟩:=mapKind_is (σ:=σ) hmk
  simp only [AOp.sem] at hs
  obtain⟨hfit,hs⟩:=hs
  have hchk:∀ em,(Instr.checkKey em 10000 kt (a.eval i)).run P w=.ok () w:=fun em=>key_check hkt ri hfit
  split at hs
  · rename_i id hid
    split at hs
    · rename_i es bs clock hes
      rw [hid] at rm
      obtain⟨l,hl,hv⟩:=rm
      obtain⟨_,_,_,arr,hb,hre,hbn⟩:=hk.obj _ _ _ hes hl
      have hg:=MapKept.run_getObj_map (P:=P) hb
      split at hs
      · rename_i n hfa
        obtain⟨p,e,g1,g2,g3,g4⟩:=find_sound (w:=w) hkt ri hre hfa
        obtain⟨e',q1,q2,q3⟩:=hre.get g1
        have:e'=e:=by rw [g2] at q1;exact (Option.some.inj q1).symm
        subst this
        obtain⟨hkey,hbits⟩:=keyEq_true g3 ri q2
        have hst:(Instr.keyThatStays e'.key (a.eval i)).run P w=.ok (a.eval i) w:=by
          rw [hkey];simp [Instr.keyThatStays,hbits]
        have ge:arr[n]?=some e':=by simpa using g2
        obtain⟨m1,m2⟩:=map_put (c':=clock) (bs':=bs) hk hes hl hb (arr.modify n fun e=>{ e with key:=a.eval i,val:=a.eval x }) (es':=es.set n (ai.ev t,ax.ev t)) (by
          rw [Array.toList_modify]
          exact hre.modify fun e he=>⟨ri,rx⟩) (by rw [← hbn];exact modify_born _ _ _)
        refine⟨undef,_,[],.tuple [],_,.inr ⟨rfl,?_⟩,m1,⟨#[],rfl,rfl⟩,m2,hs⟩
        simp [execOp,Instr.mapUpdate,run_underlying hu,hv,hg,hchk,g4,ge,hst,MapKept.run_setObj_map _ hb,World.putObj]
      · rename_i hfa
        have hf:=find_sound (w:=w) hkt ri hre hfa
        obtain⟨m1,m2⟩:=map_put (c':=clock+1) (bs':=bs++[clock]) hk hes hl hb (arr.push { key:=a.eval i,val:=a.eval x,born:=clock }) (es':=es++[(ai.ev t,ax.ev t)]) (by
          rw [Array.toList_push];exact hre.push ri rx) (by simp [hbn])
        refine⟨undef,_,[],.tuple [],_,.inr ⟨rfl,?_⟩,m1,⟨#[],rfl,rfl⟩,m2,hs⟩
        simp [execOp,Instr.mapUpdate,run_underlying hu,hv,hg,hchk,hf,MapKept.run_setObj_map _ hb,World.putObj]
      · cases hs
    · cases hs
  · cases hs
theorem snd_mapDel (hk:HeapOK P B σ h w) (ht:TOK σ t a) {s:TypeId} {k:KK} {z:AV} {m i:Operand} {am ai:AOpd} (hm:copd m=some am) (hi:copd i=some ai) (hmk:mapKind P s=some (k,z))
    {args:Array Operand} {ats:Array TypeId} {rest:List TypeId} (ha:args.toList=[m,i]) (hts:ats.toList=s :: rest)
    (hs:(AOp.mapDel k am ai).sem (AOpd.ev t) h K):Res P B σ h w ⟨dst,.call { callee:=.builtin .delete,args,argTypes:=ats },ty,pos,after,guard⟩ a K:=by
  have rm:=copd_rel ht hm
  have ri:=copd_rel ht hi
  have e1:args=#[m,i]:=by apply Array.ext';simpa using ha
  have e2:ats[0]?=some s:=by have:=congrArg (·[0]?) hts;simpa using this
  subst e1
  obtain⟨kt,et,info,zv,hu,hkt,hinf,hz,hzr⟩:=mapKind_is (σ:=σ) hmk
  simp only [AOp.sem] at hs
  obtain⟨hfit,hs⟩:=hs
  have hchk:∀ em,(Instr.checkKey em 10000 kt (a.eval i)).run P w=.ok () w:=fun em=>key_check hkt ri hfit
  split at hs
  · rename_i id hid
    split at hs
    · rename_i es bs clock hes
      rw [hid] at rm
      obtain⟨l,hl,hv⟩:=rm
      obtain⟨_,_,_,arr,hb,hre,hbn⟩:=hk.obj _ _ _ hes hl
      have hg:=MapKept.run_getObj_map (P:=P) hb
      split at hs
      · rename_i n hfa
        obtain⟨p,e,g1,g2,g3,g4⟩:=find_sound (w:=w) hkt ri hre hfa
        have hera:(arr.eraseIdxIfInBounds n).toList=arr.toList.eraseIdx n:=by
            unfold Array.eraseIdxIfInBounds
            split
            · simp
            · rw [List.eraseIdx_of_length_le];simp;omega
        obtain⟨m1,m2⟩:=map_put (c':=clock) (bs':=bs.eraseIdx n) hk hes hl hb (arr.eraseIdxIfInBounds n) (es':=es.eraseIdx n) (by
          have:(arr.eraseIdxIfInBounds n).toList=arr.toList.eraseIdx n:=by
            unfold Array.eraseIdxIfInBounds
            split
            · simp
            · rw [List.eraseIdx_of_length_le];simp;omega
          rw [this];exact hre.erase n) (by rw [hera,← hbn,erase_map])
        refine⟨.tuple #[],_,[],.tuple [],_,.inl ?_,m1,⟨#[],rfl,rfl⟩,m2,hs⟩
        simp [execOp,resolve,invoke,builtin,Builtin.delete_,e2,run_underlying hu,hv,hg,hchk,g4,MapKept.run_setObj_map _ hb,World.putObj]
      · rename_i hfa
        have hf:=find_sound (w:=w) hkt ri hre hfa
        have hset:({ w with heap:=w.heap.setIfInBounds l.blk (.map arr clock) }:World)=w:=by
          have:w.heap.setIfInBounds l.blk (.map arr clock)=w.heap:=by
            apply Array.ext_getElem?
            intro j
            rw [Array.getElem?_setIfInBounds]
            split
            · rename_i hj
              subst hj
              exact hb.symm
            · rfl
          rw [this]
        obtain⟨m1,m2⟩:=map_same hk
        refine⟨.tuple #[],_,[],.tuple [],_,.inl ?_,m1,⟨#[],rfl,rfl⟩,m2,hs⟩
        simp [execOp,resolve,invoke,builtin,Builtin.delete_,e2,run_underlying hu,hv,hg,hchk,hf,MapKept.run_setObj_map _ hb,hset]
      · cases hs
    · cases hs
  · cases hs
theorem snd_mapClear (hk:HeapOK P B σ h w) (ht:TOK σ t a) {s kt et:TypeId} {m:Operand} {am:AOpd} (hm:copd m=some am) (hu:P.underlying s=some (.map kt et))
    {args:Array Operand} {ats:Array TypeId} (ha:args.toList=[m]) (hts:ats.toList=[s])
    (hs:(AOp.mapClear am).sem (AOpd.ev t) h K):Res P B σ h w ⟨dst,.call { callee:=.builtin .clear,args,argTypes:=ats },ty,pos,after,guard⟩ a K:=by
  have rm:=copd_rel ht hm
  have e1:args=#[m]:=by apply Array.ext';simpa using ha
  have e2:ats=#[s]:=by apply Array.ext';simpa using hts
  subst e1;subst e2
  simp only [AOp.sem] at hs
  split at hs
  · rename_i id hid
    split at hs
    · rename_i es bs clock hes
      rw [hid] at rm
      obtain⟨l,hl,hv⟩:=rm
      obtain⟨_,_,_,arr,hb,hre,hbn⟩:=hk.obj _ _ _ hes hl
      have hg:=MapKept.run_getObj_map (P:=P) hb
      obtain⟨m1,m2⟩:=map_put (bs':=[]) (c':=clock) hk hes hl hb #[] (es':=[]) rfl rfl
      refine⟨.tuple #[],_,[],.tuple [],_,.inl ?_,m1,⟨#[],rfl,rfl⟩,m2,hs⟩
      simp [execOp,resolve,invoke,builtin,Builtin.clear_,run_underlying hu,hv,hg,MapKept.run_setObj_map _ hb,World.putObj]
    · cases hs
  · cases hs
theorem iter_put (hk:HeapOK P B σ h w) {id m m' since last last':Nat} {seen seen':List Nat} {l lm:Loc} (hi:h[id]?=some (.other (.iter (some m) since seen last))) (hl:σ[id]?=some (some l)) (hm:σ[m]?=some (some lm)) (hb:w.heap[l.blk]?=some (.mapIter (some lm.blk) since seen.toArray last)) :
    HeapOK P B (σ++[]) (h.set id (.other (.iter (some m) since seen' last'))) (w.putObj l.blk (.mapIter (some lm.blk) since seen'.toArray last'))∧Grow σ h w (σ++[]) (h.set id (.other (.iter (some m) since seen' last'))) (w.putObj l.blk (.mapIter (some lm.blk) since seen'.toArray last')):=by
  rw [List.append_nil]
  refine⟨hk.put hi hl _ ⟨_,rfl,.inr ⟨m,lm,rfl,hm,rfl⟩⟩,Grow.put hi rfl hl _ (Ctl.putObj w _ hb ?_ ?_)⟩
  · intro r e;cases e
  · intro d e;cases e
theorem snd_rangeM (hk:HeapOK P B σ h w) (ht:TOK σ t a) {s kt et:TypeId} {m:Operand} {am:AOpd} (hm:copd m=some am) (hu:P.underlying s=some (.map kt et))
    (hs:(AOp.rangeM am).sem (AOpd.ev t) h K):Res P B σ h w ⟨dst,.range s m,ty,pos,after,guard⟩ a K:=by
  have rm:=copd_rel ht hm
  simp only [AOp.sem] at hs
  split at hs
  · rename_i hid
    rw [hid] at rm
    simp only [Rel] at rm
    have hal:=hk.allocO (x:=.iter none 0 [] 0) (.mapIter none 0 #[] 0) 0 ⟨_,rfl,.inl ⟨rfl,rfl⟩⟩
    refine⟨.pointer (some ⟨w.heap.size,0,none⟩),_,[_],.ptr h.length 0,_,.inl ?_,hal,⟨⟨w.heap.size,0,0⟩,by rw [← hk.len];simp,rfl⟩,Grow.alloc hk.len _ _ _ rfl,hs⟩
    simp [execOp,Instr.range,run_underlying hu,rm]
  · rename_i id hid
    split at hs
    · rename_i es bs c hes
      rw [hid] at rm
      obtain⟨l,hl,hv⟩:=rm
      obtain⟨_,_,_,arr,hb,hre,hbn⟩:=hk.obj _ _ _ hes hl
      have hg:=MapKept.run_getObj_map (P:=P) hb
      have hlt:id<σ.length:=get_some_lt hl
      have hal:=hk.allocO (x:=.iter (some id) c [] c) (.mapIter (some l.blk) c #[] c) 0 ⟨_,rfl,.inr ⟨id,l,rfl,by rw [List.getElem?_append_left hlt];exact hl,rfl⟩⟩
      refine⟨.pointer (some ⟨w.heap.size,0,none⟩),_,[_],.ptr h.length 0,_,.inl ?_,hal,⟨⟨w.heap.size,0,0⟩,by rw [← hk.len];simp,rfl⟩,Grow.alloc hk.len _ _ _ rfl,hs⟩
      simp [execOp,Instr.range,run_underlying hu,hv,hg]
    · cases hs
  · cases hs
theorem left_filter {seen:List Nat}:∀ {es:List (AV × AV)} {l:List MapEntry} {bs:List Nat},RelE σ es l→l.map (·.born)=bs →
    (leftA es bs seen).length=(l.filter fun e=>!seen.contains e.born).length∧∀ (i:Nat) p b,(leftA es bs seen)[i]?=some (p,b)→∃ e,(l.filter fun e=>!seen.contains e.born)[i]?=some e∧e.born=b∧Rel σ p.1 e.key∧Rel σ p.2 e.val
  | [],l,bs,h,hb=>by
    simp only [RelE] at h;subst h
    simp only [List.map_nil] at hb;subst hb
    simp [leftA]
  | (x,y) :: es,l,bs,⟨e,l',h1,h2,h3,h4⟩,hb=>by
    subst h1
    simp only [List.map_cons] at hb;subst hb
    obtain⟨i1,i2⟩:=left_filter (seen:=seen) h4 rfl
    simp only [leftA,List.filter_cons]
    by_cases hc:seen.contains e.born=true
    · simp only [hc,if_true,Bool.not_true,Bool.false_eq_true,if_false];exact⟨i1,i2⟩
    · have hc':(!seen.contains e.born)=true:=by simpa using hc
      simp only [hc,hc',if_false,if_true]
      refine⟨by simp [i1],fun i p b hp=>?_⟩
      cases i with
      | zero =>
        cases hp
        exact⟨e,rfl,rfl,h2,h3⟩
      | succ i=>simpa using i2 i p b (by simpa using hp)
theorem next_over {ty:TypeId} {r m since last clock:Nat} {seen:Array Nat} {arr:Array MapEntry} (hg:(getObj r).run P w=.ok (.mapIter (some m) since seen last) w) (hgm:(getObj m).run P w=.ok (.map arr clock) w)
    (hguard:(!seen.isEmpty && !arr.isEmpty && arr.all fun x=>decide (x.born≥last))=false) (hl:(arr.filter fun e=>!seen.contains e.born)=#[]):(Instr.next (.pointer (some ⟨r,0,none⟩)) false ty).run P w=.ok (.tuple #[.bool false]) w:=by
  simp only [Instr.next,Sem.run_bind,hg,hgm,Result.andThen_ok,hguard,hl,Bool.false_eq_true,if_false,Sem.run_pure]
  simp [Question.forced]
theorem next_some {ty:TypeId} {r m since last clock:Nat} {seen:Array Nat} {arr:Array MapEntry} {o1:Option Nat} {o2:Nat} {o3:Array Nat} {o4:Nat} (hb:w.heap[r]?=some (.mapIter o1 o2 o3 o4)) (hg:(getObj r).run P w=.ok (.mapIter (some m) since seen last) w) (hgm:(getObj m).run P w=.ok (.map arr clock) w)
    (hguard:(!seen.isEmpty && !arr.isEmpty && arr.all fun x=>decide (x.born≥last))=false) (hne:0<(arr.filter fun e=>!seen.contains e.born).size) (hlt:∀ e∈(arr.filter fun e=>!seen.contains e.born),e.born<since) :
    ∃ (i:Nat) (e:MapEntry) (w1:World) (hi:i<(arr.filter fun e=>!seen.contains e.born).size),(arr.filter fun e=>!seen.contains e.born)[i]=e∧(w1=w∨w1=w.drew) ∧
      (Instr.next (.pointer (some ⟨r,0,none⟩)) false ty).run P w=.ok (.tuple #[.bool true,e.key,e.val]) (w1.putObj r (.mapIter (some m) since (seen.push e.born) clock)):=by
  have hset:∀ o',(setObj r o').run P w=.ok () (w.putObj r o'):=fun o'=>by simp [setObj,Sem.run,hb,World.putObj]
  have hb':w.drew.heap[r]?=some (.mapIter o1 o2 o3 o4):=hb
  have hset':∀ o',(setObj r o').run P w.drew=.ok () (w.drew.putObj r o'):=fun o'=>by simp [setObj,Sem.run,hb',World.putObj]
  have h1:(arr.filter fun e=>!seen.contains e.born).filter (fun e=>decide (e.born<since))=(arr.filter fun e=>!seen.contains e.born) :=
    Array.filter_eq_self.2 fun e he=>by simpa using hlt e he
  have h2:(arr.filter fun e=>!seen.contains e.born).filter (fun e=>decide (e.born≥since))=#[] :=
    Array.filter_eq_empty_iff.2 fun e he=>by simpa using hlt e he
  generalize hL:(arr.filter fun e=>!seen.contains e.born)=L at hne hlt h1 h2 ⊢
  have hem:L.isEmpty=false:=by
    rw [Bool.eq_false_iff];intro h;rw [Array.isEmpty_iff_size_eq_zero] at h;omega
  have hcand:∀ (i:Nat) (hi:i<L.size),(#[]++(L++#[]).map some)[i]?=some (some L[i]):=by
    intro i hi
    simp [hi]
  have hsz:(#[]++(L++#[]).map some:Array (Option MapEntry)).size=L.size:=by simp
  by_cases hf:(Question.mapNext L.size).forced=true
  · refine⟨0,L[0],w,hne,rfl,.inl rfl,?_⟩
    simp only [Instr.next,Sem.run_bind,hg,hgm,Result.andThen_ok,hguard,hL,h1,h2,hem,Bool.false_eq_true,if_false,Sem.run_pure,hsz,choose,Sem.run,hf,if_true,hcand 0 hne,hset]
  · have hi:(Question.mapNext L.size).cut (w.tape w.drawn (.mapNext L.size))<L.size:=Nat.mod_lt _ hne
    refine⟨_,_,w.drew,hi,rfl,.inr rfl,?_⟩
    simp only [Instr.next,Sem.run_bind,hg,hgm,Result.andThen_ok,hguard,hL,h1,h2,hem,Bool.false_eq_true,if_false,Sem.run_pure,hsz,choose,Sem.run,hf,hcand _ hi]
    rw [show ({ w with drawn:=w.drawn+1 }:World)=w.drew from rfl]
    simp only [hset',Result.andThen_ok]
theorem snd_nextM (hk:HeapOK P B σ h w) (ht:TOK σ t a) {it:Operand} {ai:AOpd} (hi:copd it=some ai)
    (hs:nextAny (ai.ev t) h K):Res P B σ h w ⟨dst,.next it false,ty,pos,after,guard⟩ a K:=by
  have ri:=copd_rel ht hi
  unfold nextAny at hs
  split at hs
  · rename_i id hid
    rw [hid] at ri
    obtain⟨l,hl,hv⟩:=ri
    split at hs
    · rename_i s1 s2 s3 hob
      obtain⟨_,_,hb0,m',hb,hm⟩:=hk.obj _ _ _ hob hl
      have:m'=none:=by
        rcases hm with⟨_,h⟩|⟨_,_,h,_⟩
        · exact h
        · cases h
      subst this
      have hg:(getObj l.blk).run P w=.ok (.mapIter none s1 s2.toArray s3) w:=by simp [getObj,Sem.run,hb]
      refine Res.pure hk (c:=.tuple #[.bool false]) ?_ (by exact⟨_,rfl,_,_,rfl,rfl,rfl⟩) hs
      simp [execOp,Instr.next,hv,hb0,hg]
    · rename_i m since seen last hob
      obtain⟨_,_,hb0,m',hb,hm⟩:=hk.obj _ _ _ hob hl
      obtain⟨lm,hlm,rfl⟩:∃ lm,σ[m]?=some (some lm)∧m'=some lm.blk:=by
        rcases hm with⟨h,_⟩|⟨id',lm,h1,h2,h3⟩
        · cases h
        · cases h1;exact⟨lm,h2,h3⟩
      have hg:(getObj l.blk).run P w=.ok (.mapIter (some lm.blk) since seen.toArray last) w:=by simp [getObj,Sem.run,hb]
      split at hs
      · rename_i es bs c hes
        obtain⟨_,_,_,arr,hbm,hre,hbn⟩:=hk.obj _ _ _ hes hlm
        have hgm:=MapKept.run_getObj_map (P:=P) hbm
        obtain⟨hcond,hs⟩:=hs
        obtain⟨f1,f2⟩:=left_filter (seen:=seen) hre hbn
        have hsz:es.length=arr.size:=by simpa using hre.length
        have hguard:(!seen.toArray.isEmpty && !arr.isEmpty && arr.all fun x=>decide (x.born≥last))=false:=by
          have e1:seen.toArray.isEmpty=seen.isEmpty:=by cases seen <;> rfl
          have e2:arr.isEmpty=es.isEmpty:=by
            rw [Bool.eq_iff_iff]
            simp only [Array.isEmpty_iff_size_eq_zero,List.isEmpty_iff_length_eq_zero,hsz]
          have e3:(arr.all fun x=>decide (x.born≥last))=bs.all fun b=>decide (last≤b):=by
            rw [← hbn,List.all_map,← Array.all_toList];rfl
          rw [e1,e2,e3]
          revert hcond
          cases seen.isEmpty <;> cases es.isEmpty <;> cases (bs.all fun b=>decide (last≤b)) <;> simp
        have hfl:(arr.filter fun e=>!seen.toArray.contains e.born).toList=arr.toList.filter fun e=>!seen.contains e.born:=by
          rw [Array.toList_filter];congr 1;funext e;simp
        split at hs
        · rename_i hleft
          rw [hleft] at f1
          have hempty:(arr.filter fun e=>!seen.toArray.contains e.born)=#[]:=by
            apply Array.ext'
            rw [hfl]
            exact List.eq_nil_of_length_eq_zero (by simpa using f1.symm)
          refine Res.pure hk (c:=.tuple #[.bool false]) ?_ (by exact⟨_,rfl,_,_,rfl,rfl,rfl⟩) hs
          simp only [execOp,hv,hb0,Nat.add_zero,Sem.run_bind,next_over hg hgm hguard hempty,Result.andThen_ok,Sem.run_pure]
        · rename_i x0 r0 hleft
          rw [← hleft] at hs
          have hlen:(arr.filter fun e=>!seen.toArray.contains e.born).size=(leftA es bs seen).length:=by
            rw [← Array.length_toList,hfl];exact f1.symm
          have hne:0<(arr.filter fun e=>!seen.toArray.contains e.born).size:=by rw [hlen,hleft];simp
          have hlt:∀ e∈(arr.filter fun e=>!seen.toArray.contains e.born),e.born<since:=by
            intro e he
            have he':e∈(arr.toList.filter fun e=>!seen.contains e.born):=by rw [← hfl];simpa using he
            obtain⟨i,hi,hie⟩:=List.mem_iff_getElem.1 he'
            have hi':i<(leftA es bs seen).length:=by rw [f1];exact hi
            obtain⟨e2,g1,g2,_,_⟩:=f2 i _ _ (List.getElem?_eq_getElem hi')
            rw [List.getElem?_eq_getElem hi,hie] at g1
            cases g1
            rw [g2]
            exact (hs _ (List.getElem_mem hi')).1
          obtain⟨i,e,w1,hi,hie,hw1,hrun⟩:=next_some (ty:=ty) hb hg hgm hguard hne hlt
          have hi':i<(leftA es bs seen).length:=by rw [← hlen];exact hi
          obtain⟨e2,g1,g2,g3,g4⟩:=f2 i _ _ (List.getElem?_eq_getElem hi')
          have hee:e2=e:=by
            have h1:(arr.toList.filter fun e=>!seen.contains e.born)[i]?=some e:=by
              rw [← hfl,Array.getElem?_toList,Array.getElem?_eq_getElem hi,hie]
            rw [h1] at g1;cases g1;rfl
          subst hee
          obtain⟨_,hs⟩:=hs _ (List.getElem_mem hi')
          have hk1:HeapOK P B σ h w1:=by
            rcases hw1 with rfl|rfl
            · exact hk
            · exact hk.heap_eq rfl
          have hg1:Grow σ h w σ h w1:=by
            rcases hw1 with rfl|rfl
            · exact Grow.refl _ _ _
            · exact Grow.drew _ _ _
          have hb1:w1.heap[l.blk]?=some (.mapIter (some lm.blk) since seen.toArray last):=by
            rcases hw1 with rfl|rfl <;> exact hb
          obtain⟨m1,m2⟩:=iter_put (m':=0) (seen':=seen++[(leftA es bs seen)[i].2]) (last':=c) hk1 hob hl hlm hb1
          refine⟨.tuple #[.bool true,e2.key,e2.val],_,[],.tuple [.bool true,(leftA es bs seen)[i].1.1,(leftA es bs seen)[i].1.2],_,.inl ?_,m1,⟨_,rfl,_,_,rfl,rfl,_,_,rfl,by rw [List.append_nil];exact g3,_,_,rfl,by rw [List.append_nil];exact g4,rfl⟩,hg1.trans m2,hs⟩
          have epush:(seen++[(leftA es bs seen)[i].2]).toArray=seen.toArray.push e2.born:=by rw [g2];simp
          simp only [execOp,hv,hb0,Nat.add_zero,Sem.run_bind,hrun,Result.andThen_ok,Sem.run_pure,epush]
      · cases hs
    · cases hs
  · cases hs
theorem entry_find:∀ {es:List (AV × AV)} {l:List MapEntry} {bs:List Nat} {s:Nat} {p:AV × AV},RelE σ es l→l.map (·.born)=bs→entryA es bs s=some p→∃ e,l.find? (·.born == s)=some e∧Rel σ p.1 e.key∧Rel σ p.2 e.val
  | [],l,bs,s,p,h,hb,hp=>by simp [entryA] at hp
  | (x,y) :: es,l,bs,s,p,⟨e,l',h1,h2,h3,h4⟩,hb,hp=>by
    subst h1
    simp only [List.map_cons] at hb;subst hb
    simp only [entryA] at hp
    simp only [List.find?_cons]
    split at hp
    · rename_i hs
      cases hp
      exact⟨e,by simp [hs],h2,h3⟩
    · rename_i hs
      have:(e.born == s)=false:=by simpa using hs
      rw [this]
      exact entry_find h4 rfl hp
theorem snd_entryM (hk:HeapOK P B σ h w) (ht:TOK σ t a) {it:Operand} {ai:AOpd} (hi:copd it=some ai)
    (hs:(AOp.entryM ai).sem (AOpd.ev t) h K):Res P B σ h w ⟨dst,.entry it,ty,pos,after,guard⟩ a K:=by
  have ri:=copd_rel ht hi
  simp only [AOp.sem] at hs
  split at hs
  · rename_i id hid
    rw [hid] at ri
    obtain⟨l,hl,hv⟩:=ri
    split at hs
    · rename_i m since seen last hob
      obtain⟨_,_,hb0,m',hb,hm⟩:=hk.obj _ _ _ hob hl
      obtain⟨lm,hlm,rfl⟩:∃ lm,σ[m]?=some (some lm)∧m'=some lm.blk:=by
        rcases hm with⟨h,_⟩|⟨id',lm,h1,h2,h3⟩
        · cases h
        · cases h1;exact⟨lm,h2,h3⟩
      have hg:(getObj l.blk).run P w=.ok (.mapIter (some lm.blk) since seen.toArray last) w:=by simp [getObj,Sem.run,hb]
      split at hs
      · rename_i b hbk
        split at hs
        · rename_i es bs c hes
          obtain⟨_,_,_,arr,hbm,hre,hbn⟩:=hk.obj _ _ _ hes hlm
          have hgm:=MapKept.run_getObj_map (P:=P) hbm
          obtain⟨rfl,hs⟩:=hs
          split at hs
          · rename_i p hp
            obtain⟨e,g1,g2,g3⟩:=entry_find hre hbn hp
            have hf:arr.find? (·.born == b)=some e:=by rw [← Array.find?_toList];exact g1
            have hbk':seen.toArray.back?=some b:=by rw [List.back?_toArray];exact hbk
            refine Res.pure hk (c:=.tuple #[e.key,e.val]) ?_ (by exact⟨_,rfl,_,_,rfl,g2,_,_,rfl,g3,rfl⟩) hs
            simp only [execOp,hv,hb0,Nat.add_zero,Instr.entry,Sem.run_bind,hg,hgm,hbk',Result.andThen_ok,hf,bne_self_eq_false,Bool.false_eq_true,if_false,Sem.run_pure]
          · cases hs
        · cases hs
      · cases hs
    · cases hs
  · cases hs
theorem snd_lenM (hk:HeapOK P B σ h w) (ht:TOK σ t a) {s kt et:TypeId} {m:Operand} {am:AOpd} (hm:copd m=some am) (hu:P.underlying s=some (.map kt et))
    {args:Array Operand} {ats:Array TypeId} (ha:args.toList=[m]) (hts:ats.toList=[s])
    (hs:(AOp.lenM am).sem (AOpd.ev t) h K):Res P B σ h w ⟨dst,.call { callee:=.builtin .len,args,argTypes:=ats },ty,pos,after,guard⟩ a K:=by
  have rm:=copd_rel ht hm
  have e1:args=#[m]:=by apply Array.ext';simpa using ha
  have e2:ats=#[s]:=by apply Array.ext';simpa using hts
  subst e1;subst e2
  simp only [AOp.sem] at hs
  split at hs
  · rename_i es hes
    rcases mapAt_is hk rm hes with⟨e1,rfl⟩|⟨r,arr,clock,e1,hb,hre⟩
    · exact Res.pure hk (c:=.int .i64 0) (by simp [execOp,resolve,invoke,builtin,Builtin.len_,run_underlying hu,e1,goInt]) (by exact rfl) hs
    · have:=hre.length
      refine Res.pure hk (c:=.int .i64 es.length) ?_ (by exact rfl) hs
      simp [execOp,resolve,invoke,builtin,Builtin.len_,run_underlying hu,e1,MapKept.run_getObj_map (P:=P) hb,goInt,this]
  · cases hs
end
end Go.Abs
/- All abstract operations together;calls;regions;code. -/
namespace Go.Abs
open Go.RowKit
variable {P:Program}
section
variable {P:Program} {B:Nat} {σ:Sg} {h:Heap} {w:World} {a:Act} {t:List (Nat × AV)} {K:AV→Heap→Prop}
theorem map_some {α β:Type} {f:α→β} {o:Option α} {b:β} (h:o.map f=some b):∃ x,o=some x∧f x=b:=by
  cases o with
  | none=>cases h
  | some x=>exact⟨x,rfl,Option.some.inj h⟩
theorem opt_copd (lo:Option Operand):(lo.map copd=none∧lo=none)∨(lo.map copd=some none)∨∃ y ay,lo=some y∧lo.map copd=some (some ay)∧copd y=some ay:=by
  cases lo with
  | none=>exact .inl ⟨rfl,rfl⟩
  | some y =>
    cases hc:copd y with
    | none=>exact .inr (.inl (by simp [hc]))
    | some ay=>exact .inr (.inr ⟨y,ay,rfl,by simp [hc],hc⟩)
set_option maxHeartbeats 1000000 in
theorem snd_eqs (hk:HeapOK P B σ h w) (ht:TOK σ t a) {dst:Option Tmp} {ty:TypeId} {pos:String} {after:Array Edge} {guard:Option (Nat × Bool)} {op:BinOp} {e yt:TypeId} {x y:Operand} {ax ay:AOpd} {ao:AOp}
    (h1:copd x=some ax) (h2:copd y=some ay) (hop:op=.eql∨op=.neq) (hc:(match P.underlying e with
        | some (.int _)|some .string=>some (.bin op ax ay)
        | some .bool=>some (.eqv .bool (op matches .neq) ax ay)
        | some (.slice _)=>some (.eqv .slice (op matches .neq) ax ay)
        | some (.pointer _)=>some (.eqv .ptr (op matches .neq) ax ay)
        | some (.func _ _ _)=>some (.eqv .func (op matches .neq) ax ay)
        | some (.map _ _)=>some (.eqv .map (op matches .neq) ax ay)
        | some (.struct _)|some (.array _ _)=>match eqOffs P 20 e with
          | some offs=>if P.eqGuardType P.depth e=true∨tyAgg P e≠some true then none else some (.eqCells (op matches .neq) offs ax ay)
          | none=>none
        | _=>none)=some ao) (hs:ao.semN (AOpd.ev t) h K):Res P B σ h w ⟨dst,.binOp op e x y yt,ty,pos,after,guard⟩ a K:=by
  split at hc
  · simp only [Option.some.injEq] at hc;subst hc;exact snd_bin hk ht h1 h2 hs
  · simp only [Option.some.injEq] at hc;subst hc;exact snd_bin hk ht h1 h2 hs
  · rename_i hu;simp only [Option.some.injEq] at hc;subst hc;exact snd_eqv (k:=.bool) hk ht hop hu h1 h2 hs
  · rename_i hu;simp only [Option.some.injEq] at hc;subst hc;exact snd_eqv (k:=.slice) hk ht hop ⟨_,hu⟩ h1 h2 hs
  · rename_i hu;simp only [Option.some.injEq] at hc;subst hc;exact snd_eqv (k:=.ptr) hk ht hop ⟨_,hu⟩ h1 h2 hs
  · rename_i hu;simp only [Option.some.injEq] at hc;subst hc;exact snd_eqv (k:=.func) hk ht hop ⟨_,_,_,hu⟩ h1 h2 hs
  · rename_i hu;simp only [Option.some.injEq] at hc;subst hc;exact snd_eqv (k:=.map) hk ht hop ⟨_,_,hu⟩ h1 h2 hs
  · split at hc
    · rename_i ho
      split at hc
      · cases hc
      · rename_i hg
        simp only [Option.some.injEq] at hc;subst hc
        rw [not_or,Decidable.not_not] at hg
        exact snd_eqCells hk ht h1 h2 hop hg.2 ho (by simpa using hg.1) hs
    · cases hc
  · split at hc
    · rename_i ho
      split at hc
      · cases hc
      · rename_i hg
        simp only [Option.some.injEq] at hc;subst hc
        rw [not_or,Decidable.not_not] at hg
        exact snd_eqCells hk ht h1 h2 hop hg.2 ho (by simpa using hg.1) hs
    · cases hc
  · cases hc
theorem AOp.soundN {o:Oper} {ao:AOp} (hc:cop P o=some ao) (hk:HeapOK P B σ h w) (ht:TOK σ t a) (hs:ao.semN (AOpd.ev t) h K):Res P B σ h w o a K:=by
  obtain⟨dst,op,ty,pos,after,guard⟩:=o
  cases op <;> simp only [cop] at hc
  case move x=>obtain⟨ax,hx,rfl⟩:=map_some hc;exact snd_move hk ht hx hs
  case assign x=>obtain⟨ax,hx,rfl⟩:=map_some hc;exact snd_assign hk ht hx hs
  case pick c x y =>
    split at hc
    · rename_i h1 h2 h3;simp only [Option.some.injEq] at hc;subst hc;exact snd_pick hk ht h1 h2 h3 hs
    · cases hc
  case alloc e=>obtain⟨zs,hz,rfl⟩:=map_some hc;exact snd_alloc hk hz hs
  case box e x=>obtain⟨ax,hx,rfl⟩:=map_some hc;exact snd_box hk ht hx hs
  case build e parts =>
    split at hc
    · rename_i h1 h2 h3
      obtain⟨aps,hp,rfl⟩:=map_some hc
      exact snd_build hk ht h2 h3 hp hs
    · cases hc
  case buildSlice s len parts =>
    split at hc
    · rename_i e hu
      split at hc
      · rename_i sz zs h1 h2
        split at hc
        · rename_i hcond
          obtain⟨aps,hp,rfl⟩:=map_some hc
          exact snd_buildSlice hk ht hu h1 h2 hcond.1 hcond.2.1 hcond.2.2 hp hs
        · cases hc
      · cases hc
    · cases hc
  case load e x =>
    split at hc
    · rename_i h1 h2 h3;simp only [Option.some.injEq] at hc;subst hc;exact snd_loadN hk ht h3 h1 h2 hs
    · rename_i h1 h2 h3;simp only [Option.some.injEq] at hc;subst hc;exact snd_load1 hk ht h3 h1 hs
    · cases hc
  case store e x y =>
    split at hc
    · rename_i h1 h2 h3
      split at hc
      · rename_i h4;simp only [Option.some.injEq] at hc;subst hc;exact snd_store hk ht h2 h3 h1 h4 hs
      · cases hc
    · cases hc
  case nilCheck x=>obtain⟨ax,hx,rfl⟩:=map_some hc;exact snd_nilCheck hk ht hx hs
  case binOp op e x y yt =>
    split at hc
    · rename_i ax ay h1 h2
      split at hc
      · exact snd_eqs hk ht h1 h2 (.inl rfl) hc hs
      · exact snd_eqs hk ht h1 h2 (.inr rfl) hc hs
      · simp only [Option.some.injEq] at hc;subst hc;exact snd_shift hk ht (.inl rfl) h1 h2 hs
      · simp only [Option.some.injEq] at hc;subst hc;exact snd_shift hk ht (.inr rfl) h1 h2 hs
      · simp only [Option.some.injEq] at hc;subst hc;exact snd_bin hk ht h1 h2 hs
    · cases hc
  case unOp op e x =>
    split at hc
    · rename_i h1;simp only [Option.some.injEq] at hc;subst hc;exact snd_neg hk ht h1 hs
    · rename_i h1;simp only [Option.some.injEq] at hc;subst hc;exact snd_not hk ht h1 hs
    · cases hc
  case convert s d x =>
    split at hc
    · rename_i h1 h2 h3;simp only [Option.some.injEq] at hc;subst hc;exact snd_conv hk ht h3 h1 h2 hs
    · cases hc
  case makeFunc f xs ys =>
    split at hc
    · rename_i h1 h2;simp only [Option.some.injEq] at hc;subst hc;exact snd_mkfn hk ht h1 h2 hs
    · cases hc
  case fieldAddr s x f =>
    split at hc
    · rename_i h1 h2
      split at hc
      · rename_i h3
        split at hc
        · rename_i h4
          split at hc
          · rename_i h5;simp only [Option.some.injEq] at hc;subst hc;exact snd_fieldAddr hk ht h2 h1 h3 h4 h5 hs
          · cases hc
        · cases hc
      · cases hc
    · cases hc
  case field s x f =>
    split at hc
    · rename_i h1 h2
      split at hc
      · rename_i h3
        split at hc
        · rename_i h4 h5;simp only [Option.some.injEq] at hc;subst hc;exact snd_fieldN hk ht h2 h1 h3 h4 h5 hs
        · rename_i h4 h5;simp only [Option.some.injEq] at hc;subst hc;exact snd_field1 hk ht h2 h1 h3 h4 hs
        · cases hc
      · cases hc
    · cases hc
  case indexAddr s x i =>
    split at hc
    · rename_i h1 h2 h3;obtain⟨sz,hz,rfl⟩:=map_some hc;exact snd_idxSl hk ht h2 h3 h1 hz hs
    · rename_i h1 h2 h3;obtain⟨sz,hz,rfl⟩:=map_some hc;exact snd_idxArr hk ht h2 h3 h1 hz hs
    · cases hc
  case index s x i =>
    split at hc
    · rename_i h1 h2 h3
      split at hc
      · rename_i h4 h5;simp only [Option.some.injEq] at hc;subst hc;exact snd_indexN hk ht h2 h3 h1 h4 h5 hs
      · rename_i h4 h5;simp only [Option.some.injEq] at hc;subst hc;exact snd_index1 hk ht h2 h3 h1 h4 h5 hs
      · cases hc
    · rename_i h1 h2 h3;simp only [Option.some.injEq] at hc;subst hc;exact snd_sIdx hk ht h2 h3 h1 hs
    · cases hc
  case makeSlice s x y =>
    split at hc
    · rename_i h1 h2 h3
      split at hc
      · rename_i h4 h5
        split at hc
        · rename_i hcond;simp only [Option.some.injEq] at hc;subst hc;exact snd_makeSl hk ht h2 h3 h1 h4 h5 hcond.1 hcond.2 hs
        · cases hc
      · cases hc
    · cases hc
  case makeMap s r =>
    cases r with
    | none=>simp only [Option.some.injEq] at hc;subst hc;exact snd_makeMap (t:=t) hk hs
    | some r=>cases hc
  case lookup s m i ok =>
    split at hc
    · rename_i h1 h2 h3;simp only [Option.some.injEq] at hc;subst hc;exact snd_mapGet hk ht h2 h3 h1 hs
    · cases hc
  case mapUpdate s m i x =>
    split at hc
    · rename_i h1 h2 h3 h4;simp only [Option.some.injEq] at hc;subst hc;exact snd_mapPut hk ht h2 h3 h4 h1 hs
    · cases hc
  case insert s m i x =>
    split at hc
    · rename_i h1 h2 h3 h4;simp only [Option.some.injEq] at hc;subst hc;exact snd_insert hk ht h2 h3 h4 h1 hs
    · cases hc
  case range s x =>
    split at hc
    · rename_i hu hx;simp only [Option.some.injEq] at hc;subst hc;exact snd_rangeM hk ht hx hu hs
    · cases hc
  case next it b =>
    cases b with
    | false=>obtain⟨ax,hx,rfl⟩:=map_some hc;exact snd_nextM hk ht hx hs
    | true=>cases hc
  case entry it=>obtain⟨ax,hx,rfl⟩:=map_some hc;exact snd_entryM hk ht hx hs
  case slice s x lo hi mx =>
    split at hc
    · rename_i ax hu hx
      cases mx with
      | some _ =>
        rcases opt_copd lo with⟨l1,l2⟩|l1|⟨yl,al,l2,l1,l3⟩ <;> rcases opt_copd hi with⟨i1,i2⟩|i1|⟨yi,ai,i2,i1,i3⟩ <;> simp [l1,i1] at hc
      | none =>
        rcases opt_copd lo with⟨l1,l2⟩|l1|⟨yl,al,l2,l1,l3⟩
        · rcases opt_copd hi with⟨i1,i2⟩|i1|⟨yi,ai,i2,i1,i3⟩
          · simp only [l1,i1,Option.some.injEq] at hc;subst hc
            exact snd_sSlice hk ht hx (.inl ⟨l2,rfl⟩) (.inl ⟨i2,rfl⟩) hu hs
          · simp [l1,i1] at hc
          · simp only [l1,i1,Option.some.injEq] at hc;subst hc
            exact snd_sSlice hk ht hx (.inl ⟨l2,rfl⟩) (.inr ⟨yi,ai,i2,rfl,i3⟩) hu hs
        · simp [l1] at hc
        · rcases opt_copd hi with⟨i1,i2⟩|i1|⟨yi,ai,i2,i1,i3⟩
          · simp only [l1,i1,Option.some.injEq] at hc;subst hc
            exact snd_sSlice hk ht hx (.inr ⟨yl,al,l2,rfl,l3⟩) (.inl ⟨i2,rfl⟩) hu hs
          · simp [l1,i1] at hc
          · simp only [l1,i1,Option.some.injEq] at hc;subst hc
            exact snd_sSlice hk ht hx (.inr ⟨yl,al,l2,rfl,l3⟩) (.inr ⟨yi,ai,i2,rfl,i3⟩) hu hs
    · rename_i e ax hu hx
      split at hc
      · rename_i sz hz
        rcases opt_copd lo with⟨l1,l2⟩|l1|⟨yl,al,l2,l1,l3⟩
        · rcases opt_copd hi with⟨i1,i2⟩|i1|⟨yi,ai,i2,i1,i3⟩
          · rcases opt_copd mx with⟨m1,m2⟩|m1|⟨ym,am,m2,m1,m3⟩
            · simp only [l1,i1,m1,Option.some.injEq] at hc;subst hc;subst m2
              exact snd_slice hk ht hx (.inl ⟨l2,rfl⟩) (.inl ⟨i2,rfl⟩) hu hz hs
            · simp [l1,i1,m1] at hc
            · simp [l1,i1,m1] at hc
          · simp [l1,i1] at hc
          · rcases opt_copd mx with⟨m1,m2⟩|m1|⟨ym,am,m2,m1,m3⟩
            · simp only [l1,i1,m1,Option.some.injEq] at hc;subst hc;subst m2
              exact snd_slice hk ht hx (.inl ⟨l2,rfl⟩) (.inr ⟨yi,ai,i2,rfl,i3⟩) hu hz hs
            · simp [l1,i1,m1] at hc
            · simp only [l1,i1,m1,Option.some.injEq] at hc;subst hc;subst m2;subst i2
              exact snd_slice3 hk ht hx (.inl ⟨l2,rfl⟩) i3 m3 hu hz hs
        · simp [l1] at hc
        · rcases opt_copd hi with⟨i1,i2⟩|i1|⟨yi,ai,i2,i1,i3⟩
          · rcases opt_copd mx with⟨m1,m2⟩|m1|⟨ym,am,m2,m1,m3⟩
            · simp only [l1,i1,m1,Option.some.injEq] at hc;subst hc;subst m2
              exact snd_slice hk ht hx (.inr ⟨yl,al,l2,rfl,l3⟩) (.inl ⟨i2,rfl⟩) hu hz hs
            · simp [l1,i1,m1] at hc
            · simp [l1,i1,m1] at hc
          · simp [l1,i1] at hc
          · rcases opt_copd mx with⟨m1,m2⟩|m1|⟨ym,am,m2,m1,m3⟩
            · simp only [l1,i1,m1,Option.some.injEq] at hc;subst hc;subst m2
              exact snd_slice hk ht hx (.inr ⟨yl,al,l2,rfl,l3⟩) (.inr ⟨yi,ai,i2,rfl,i3⟩) hu hz hs
            · simp [l1,i1,m1] at hc
            · simp only [l1,i1,m1,Option.some.injEq] at hc;subst hc;subst m2;subst i2
              exact snd_slice3 hk ht hx (.inr ⟨yl,al,l2,rfl,l3⟩) i3 m3 hu hz hs
      · cases hc
    · cases hc
  case extract x i=>obtain⟨ax,hx,rfl⟩:=map_some hc;exact snd_extract hk ht hx hs
  case call c =>
    obtain⟨callee,args,ats⟩:=c
    cases callee with
    | invoke r m=>cases hc
    | value f =>
      cases f with
      | func f =>
        simp only at hc
        split at hc
        · obtain⟨as,_,rfl⟩:=map_some hc;exact hs.elim
        · cases hc
      | tmp i =>
        simp only at hc
        split at hc
        · simp only [Option.some.injEq] at hc;subst hc;exact hs.elim
        · cases hc
      | const v =>
        simp only at hc
        split at hc
        · simp only [Option.some.injEq] at hc;subst hc;exact hs.elim
        · cases hc
      | global g =>
        simp only at hc
        split at hc
        · simp only [Option.some.injEq] at hc;subst hc;exact hs.elim
        · cases hc
    | builtin b =>
      cases b <;> simp only at hc <;> try (cases hc;done)
      case len =>
        split at hc
        · rename_i h1 h2
          split at hc
          · rename_i hu;obtain⟨ax,hx,rfl⟩:=map_some hc;exact snd_len hk ht hx hu h1 h2 hs
          · rename_i hu;obtain⟨ax,hx,rfl⟩:=map_some hc;exact snd_lenS hk ht hx hu h1 h2 hs
          · rename_i hu;obtain⟨ax,hx,rfl⟩:=map_some hc;exact snd_lenM hk ht hx hu h1 h2 hs
          · cases hc
        · cases hc
      case delete =>
        split at hc
        · rename_i h1 h2
          split at hc
          · rename_i g1 g2 g3;simp only [Option.some.injEq] at hc;subst hc;exact snd_mapDel hk ht g2 g3 g1 h1 h2 hs
          · cases hc
        · cases hc
      case clear =>
        split at hc
        · rename_i h1 h2
          split at hc
          · rename_i hu;obtain⟨ax,hx,rfl⟩:=map_some hc;exact snd_mapClear hk ht hx hu h1 h2 hs
          · cases hc
        · cases hc
      case cap =>
        split at hc
        · rename_i h1 h2
          split at hc
          · rename_i hu;obtain⟨ax,hx,rfl⟩:=map_some hc;exact snd_capS hk ht hx hu h1 h2 hs
          · cases hc
        · cases hc
      case append =>
        split at hc
        · rename_i h1 h2
          split at hc
          · rename_i htu
            subst htu
            split at hc
            · rename_i hu
              split at hc
              · rename_i g1 g2 g3 g4
                split at hc
                · rename_i hcond
                  simp only [Option.some.injEq] at hc;subst hc
                  exact snd_append hk ht g3 g4 hu g1 g2 hcond.1 hcond.2.1 hcond.2.2 h1 h2 hs
                · cases hc
              · cases hc
            · cases hc
          · split at hc
            · rename_i hu hui
              split at hc
              · rename_i g1 g2 g3 g4
                split at hc
                · rename_i hcond
                  simp only [Option.some.injEq] at hc;subst hc
                  exact snd_appZ hk ht g3 g4 hu hui g1 g2 hcond.1 hcond.2.1 hcond.2.2 h1 h2 hs
                · cases hc
              · cases hc
            · cases hc
        · cases hc
      case min =>
        split at hc
        · rename_i h1;simp only [Option.some.injEq] at hc;subst hc;exact snd_min hk ht h1 hs
        · cases hc
      case max =>
        split at hc
        · rename_i h1;simp only [Option.some.injEq] at hc;subst hc;exact snd_max hk ht h1 hs
        · cases hc
  all_goals cases hc
theorem AOp.sound {o:Oper} {ao:AOp} (hc:cop P o=some ao) (hk:HeapOK P B σ h w) (ht:TOK σ t a) (hs:ao.sem (AOpd.ev t) h K):Res P B σ h w o a K:=AOp.soundN hc hk ht (semN_of hs)
end
end Go.Abs
/- States,what may be forgotten of them,calls,and code. -/
namespace Go.Abs
open Go.RowKit
variable {P:Program}
/-! ### Numbers of objects in values -/
mutual
theorem ren_id {ρ:Nat→Nat} {m:Nat} (hρ:∀ i,i<m→ρ i=i):∀ (v:AV),v.sc m=true→v.ren ρ=v
  | .bool _,_|.int _ _,_|.str _,_|.nil,_|.nilslice,_|.nilmap,_|.nilfn,_|.niliface,_|.junk,_=>rfl
  | .ptr id off,h=>by simp only [AV.sc,decide_eq_true_eq] at h;simp only [AV.ren,hρ id h]
  | .slice id _ _ _ _,h=>by simp only [AV.sc,decide_eq_true_eq] at h;simp only [AV.ren,hρ id h]
  | .map id,h=>by simp only [AV.sc,decide_eq_true_eq] at h;simp only [AV.ren,hρ id h]
  | .yield id,h=>by simp only [AV.sc,decide_eq_true_eq] at h;simp only [AV.ren,hρ id h]
  | .fn f a b,h=>by simp only [AV.sc,Bool.and_eq_true] at h;simp only [AV.ren,renL_id hρ a h.1,renL_id hρ b h.2]
  | .iface t v,h=>by simp only [AV.sc] at h;simp only [AV.ren,ren_id hρ v h]
  | .agg cs,h=>by simp only [AV.sc] at h;simp only [AV.ren,renL_id hρ cs h]
  | .tuple cs,h=>by simp only [AV.sc] at h;simp only [AV.ren,renL_id hρ cs h]
theorem renL_id {ρ:Nat→Nat} {m:Nat} (hρ:∀ i,i<m→ρ i=i):∀ (vs:List AV),scL m vs=true→renL ρ vs=vs
  | [],_=>rfl
  | v :: vs,h=>by simp only [scL,Bool.and_eq_true] at h;simp only [renL,ren_id hρ v h.1,renL_id hρ vs h.2]
end
theorem lk_ren (ρ:Nat→Nat):∀ (t:List (Nat × AV)) (k:Nat),lk (tRen ρ t) k=(lk t k).ren ρ
  | [],_=>rfl
  | (j,v) :: t,k=>by
    simp only [tRen,List.map_cons,lk]
    split
    · rfl
    · exact lk_ren ρ t k
theorem lk_sc {m:Nat}:∀ {t:List (Nat × AV)},tSc m t=true→∀ k,(lk t k).sc m=true
  | [],_,_=>rfl
  | (j,v) :: t,h,k=>by
    simp only [tSc,List.all_cons,Bool.and_eq_true] at h
    simp only [lk]
    split
    · exact h.1
    · exact lk_sc h.2 k
theorem tRen_id {ρ:Nat→Nat} {m:Nat} (hρ:∀ i,i<m→ρ i=i):∀ {t:List (Nat × AV)},tSc m t=true→tRen ρ t=t
  | [],_=>rfl
  | (j,v) :: t,h=>by
    simp only [tSc,List.all_cons,Bool.and_eq_true] at h
    have:=tRen_id hρ h.2
    simp only [tRen] at this
    simp only [tRen,List.map_cons,ren_id hρ v h.1,this]
theorem oren_id {ρ:Nat→Nat} {m:Nat} (hρ:∀ i,i<m→ρ i=i):∀ (x:OObj),x.sc m=true→x.ren ρ=x
  | .iter none _ _ _,h=>rfl
  | .iter (some id) _ _ _,h=>by
    simp only [OObj.sc,decide_eq_true_eq] at h
    simp only [OObj.ren,Option.map_some,hρ id h]
  | .map es _ _,h=>by
    simp only [OObj.ren]
    congr 1
    refine (List.map_congr_left fun p hp=>?_).trans (List.map_id es)
    have:=List.all_eq_true.1 h p hp
    simp only [Bool.and_eq_true] at this
    simp only [ren_id hρ _ this.1,ren_id hρ _ this.2,id]
  | .loop t _ _ _ _,h=>by simp only [OObj.ren,tRen_id hρ h]
theorem aren_id {ρ:Nat→Nat} {m:Nat} (hρ:∀ i,i<m→ρ i=i):∀ (o:AObj),o.sc m=true→o.ren ρ=o
  | .dead,_=>rfl
  | .other x,h=>by simp only [AObj.ren,oren_id hρ x h]
  | .cells vs _,h=>by simp only [AObj.ren,renL_id hρ vs h]
theorem asc_mono {m m':Nat} (h:m≤m'):∀ (o:AObj),o.sc m=true→o.sc m'=true
  | .dead,_=>rfl
  | .other x,k=>osc_mono h x k
  | .cells vs _,k=>scL_mono h vs k
def sgOf (σ:Sg) (ρ:Nat→Nat) (m:Nat):Sg:=(List.range m).map fun i=>σ.getD (ρ i) none
theorem sgOf_get {σ:Sg} {ρ:Nat→Nat} {m i:Nat} (hi:i<m):(sgOf σ ρ m)[i]?=some (σ.getD (ρ i) none):=by
  simp [sgOf,hi]
mutual
theorem rel_ren {σ:Sg} {ρ:Nat→Nat} {m:Nat}:∀ (v:AV) (c:Value),v.sc m=true→Rel σ (v.ren ρ) c→Rel (sgOf σ ρ m) v c
  | .bool _,_,_,h|.int _ _,_,_,h|.str _,_,_,h|.nil,_,_,h|.nilslice,_,_,h|.nilmap,_,_,h|.nilfn,_,_,h|.niliface,_,_,h|.junk,_,_,h=>h
  | .ptr id off,_,hs,⟨l,h1,h2⟩=>⟨l,by simp only [AV.sc,decide_eq_true_eq] at hs;rw [sgOf_get hs];simp [List.getD,h1],h2⟩
  | .map id,_,hs,⟨l,h1,h2⟩=>⟨l,by simp only [AV.sc,decide_eq_true_eq] at hs;rw [sgOf_get hs];simp [List.getD,h1],h2⟩
  | .yield id,_,hs,⟨l,h1,h2⟩=>⟨l,by simp only [AV.sc,decide_eq_true_eq] at hs;rw [sgOf_get hs];simp [List.getD,h1],h2⟩
  | .slice id _ _ _ _,_,hs,.inl ⟨h1,h2⟩=>.inl ⟨by simp only [AV.sc,decide_eq_true_eq] at hs;simpa [sgOf] using hs,h2⟩
  | .slice id _ _ _ _,_,hs,.inr ⟨l,o,c,h1,h2⟩=>.inr ⟨l,o,c,by simp only [AV.sc,decide_eq_true_eq] at hs;rw [sgOf_get hs];simp [List.getD,h1],h2⟩
  | .fn _ fs cs,_,hs,⟨a,b,h1,h2,h3⟩=>by
    simp only [AV.sc,Bool.and_eq_true] at hs
    exact⟨a,b,h1,relL_ren fs _ hs.1 h2,relL_ren cs _ hs.2 h3⟩
  | .iface _ x,_,hs,⟨c,h1,h2⟩=>⟨c,h1,rel_ren x c (by simpa only [AV.sc] using hs) h2⟩
  | .agg cs,_,hs,⟨a,h1,h2⟩=>⟨a,h1,relL_ren cs _ (by simpa only [AV.sc] using hs) h2⟩
  | .tuple cs,_,hs,⟨a,h1,h2⟩=>⟨a,h1,relL_ren cs _ (by simpa only [AV.sc] using hs) h2⟩
theorem relL_ren {σ:Sg} {ρ:Nat→Nat} {m:Nat}:∀ (vs:List AV) (cs:List Value),scL m vs=true→RelL σ (renL ρ vs) cs→RelL (sgOf σ ρ m) vs cs
  | [],_,_,h=>h
  | v :: vs,_,hs,⟨c,cs,h1,h2,h3⟩=>by
    simp only [scL,Bool.and_eq_true] at hs
    exact⟨c,cs,h1,rel_ren v c hs.1 h2,relL_ren vs cs hs.2 h3⟩
end
theorem relE_ren {σ:Sg} {ρ:Nat→Nat} {m:Nat}:∀ (es:List (AV × AV)) (l:List MapEntry),(es.all fun p=>p.1.sc m && p.2.sc m)=true→RelE σ (es.map fun p=>(p.1.ren ρ,p.2.ren ρ)) l→RelE (sgOf σ ρ m) es l
  | [],_,_,h=>h
  | (k,v) :: es,l,hs,⟨e,l',h1,h2,h3,h4⟩=>by
    simp only [List.all_cons,Bool.and_eq_true] at hs
    exact⟨e,l',h1,rel_ren k _ hs.1.1 h2,rel_ren v _ hs.1.2 h3,relE_ren es l' hs.2 h4⟩
theorem ook_ren {σ:Sg} {ρ:Nat→Nat} {m:Nat}:∀ (x:OObj) (o:Option Obj),x.sc m=true→OOK P σ (x.ren ρ) o→OOK P (sgOf σ ρ m) x o
  | .map es _ _,_,hs,⟨arr,h1,h2,h3⟩=>⟨arr,h1,relE_ren es _ hs h2,h3⟩
  | .iter none _ _ _,_,_,⟨m',h1,.inl h2⟩=>⟨m',h1,.inl ⟨rfl,h2.2⟩⟩
  | .iter none _ _ _,_,_,⟨m',h1,.inr ⟨id,l,h2,_⟩⟩=>by cases h2
  | .iter (some id) _ _ _,_,_,⟨m',h1,.inl h2⟩=>by cases h2.1
  | .iter (some id) _ _ _,_,hs,⟨m',h1,.inr ⟨id',l,h2,h3,h4⟩⟩=>by
    simp only [OObj.sc,decide_eq_true_eq] at hs
    simp only [Option.map_some,Option.some.injEq] at h2
    subst h2
    exact⟨m',h1,.inr ⟨id,l,rfl,by rw [sgOf_get hs];simpa [List.getD] using congrArg (·.getD none) h3,h4⟩⟩
  | .loop t _ _ _ _,_,hs,⟨r,h1,h2,h3⟩=>⟨r,h1,fun k=>by
      have:=h2 k
      rw [lk_ren] at this
      exact rel_ren _ _ (lk_sc hs k) this,h3.1,h3.2.1,h3.2.2.1,h3.2.2.2.1,h3.2.2.2.2.1,by
      have e:(sgOf σ ρ m).length=m:=by simp [sgOf]
      rw [e];exact hs⟩
theorem scL_of_get {m:Nat}:∀ {vs:List AV},(∀ (j:Nat) (v:AV),vs[j]?=some v→v.sc m=true)→scL m vs=true
  | [],_=>rfl
  | v :: vs,h=>by
    simp only [scL,Bool.and_eq_true]
    exact⟨h 0 v rfl,scL_of_get fun j u hj=>h (j+1) u (by simpa using hj)⟩
def Closed (H:Heap):Prop:=∀ (i:Nat) (o:AObj),H[i]?=some o→o.sc H.length=true
theorem HeapOK.closed {B:Nat} {σ:Sg} {h:Heap} {w:World} (k:HeapOK P B σ h w):Closed h:=by
  intro i o hi
  obtain⟨l,hl⟩:=k.sg hi
  have:=k.obj i o l hi hl
  cases o with
  | dead=>rfl
  | other x =>
    cases l with
    | none=>exact this.elim
    | some l=>rw [← k.len];exact ook_sc this.2.2.2
  | cells vs own =>
    cases l with
    | none=>simp only [ObjOK] at this;subst this;rfl
    | some l =>
      refine scL_of_get fun j v hj=>?_
      obtain⟨c,_,hr⟩:=this.2.1 j v hj
      rw [← k.len];exact rel_sc v c hr
/-! ### States -/
structure St where
  t:List (Nat × AV)
  h:Heap
structure Rn where
  rd:Option Nat
  lo:Nat
def mark (D:Nat):Deferred:={ target:=.collected D,args:=#[] }
structure Kept (rnd:Rn) (a:Act) (w:World):Prop where
  lo:rnd.lo≤w.heap.size
  marks:∃ Ds:List Nat,a.defers=Ds.map mark∧Ds.Nodup∧∀ D∈Ds,rnd.lo≤D∧w.heap[D]?=some (.deferred (some []))
  round:∀ l,rnd.rd=some l→∃ r,w.heap[l]?=some (.loop r)
theorem Kept.mono {rnd:Rn} {a a':Act} {w w':World} (h:Kept rnd a w) (hc:Ctl w w') (hd:a'.defers=a.defers):Kept rnd a' w':=by
  obtain⟨h0,⟨Ds,e1,e2,e3⟩,h2⟩:=h
  refine⟨Nat.le_trans h0 hc.size,⟨Ds,hd.trans e1,e2,fun D hm=>⟨(e3 D hm).1,hc.mark D (e3 D hm).2⟩⟩,fun l e=>?_⟩
  obtain⟨r,hr⟩:=h2 l e
  obtain⟨r',hr',_⟩:=hc.loop l r hr
  exact⟨r',hr'⟩
structure Sim (P:Program) (rnd:Rn) (B n sz:Nat) (σ:Sg) (st:St) (w:World) (a:Act):Prop where
  hk:HeapOK P B σ st.h w
  ht:TOK σ st.t a
  hd:Kept rnd a w
  hsz:a.tmps.size=sz
  hn:n≤st.h.length
def Agree (n:Nat) (σ σ':Sg):Prop:=∀ i,i<n→σ'[i]?=σ[i]?
theorem Agree.refl (n:Nat) (σ:Sg):Agree n σ σ:=fun _ _=>rfl
theorem Agree.trans {n:Nat} {a b c:Sg} (h:Agree n a b) (k:Agree n b c):Agree n a c:=fun i hi=>(k i hi).trans (h i hi)
theorem Agree.app {n:Nat} {σ τ:Sg} (h:n≤σ.length):Agree n σ (σ++τ):=fun i hi=>by rw [List.getElem?_append_left (by omega)]
structure Le (H:Heap) (s s':St):Prop where
  n:H.length≤s'.h.length
  ex:∃ ρ:Nat→Nat,(∀ i,i<H.length→ρ i=i) ∧
    (∀ (i:Nat) (o:AObj),s'.h[i]?=some o→o=.dead∨(H[i]?=some o∧s.h[i]?=some o)∨(o.sc s'.h.length=true∧s.h[ρ i]?=some (o.ren ρ))) ∧
    (∀ (i j:Nat) (oi oj:AObj),s'.h[i]?=some oi→s'.h[j]?=some oj→oi.isOwn=true→oj.live=true→i≠j→ρ i≠ρ j) ∧
    ∀ k,lk s'.t k=.junk∨((lk s'.t k).sc s'.h.length=true∧lk s.t k=(lk s'.t k).ren ρ)
theorem Le.refl {H:Heap} {s:St} (h:H.length≤s.h.length) (hs:∀ k,(lk s.t k).sc s.h.length=true) (ho:∀ (i:Nat) (o:AObj),s.h[i]?=some o→o.sc s.h.length=true):Le H s s:=by
  refine⟨h,id,fun _ _=>rfl,fun i o hi=>.inr (.inr ⟨ho i o hi,?_⟩),fun i j _ _ _ _ _ _ hne=>hne,fun k=>.inr ⟨hs k,?_⟩⟩
  · have:=ho i o hi
    rw [aren_id (ρ:=id) (m:=s.h.length) (fun _ _=>rfl) o this];exact hi
  · exact (ren_id (ρ:=id) (m:=s.h.length) (fun _ _=>rfl) _ (hs k)).symm
theorem live_ren {ρ:Nat→Nat} (o:AObj):(o.ren ρ).live=o.live∧(o.ren ρ).isOwn=o.isOwn:=by cases o <;> exact⟨rfl,rfl⟩
theorem Sim.le {rnd:Rn} {B sz:Nat} {H:Heap} {σ:Sg} {s s':St} {w:World} {a:Act} (hc:Closed H) (k:Sim P rnd B H.length sz σ s w a) (h:Le H s s') :
    ∃ σ',Agree H.length σ σ'∧Sim P rnd B H.length sz σ' s' w a∧Grow σ s.h w σ' s'.h w:=by
  obtain⟨hn,ρ,h1,h2,h3,h4⟩:=h
  have hid:∀ (i:Nat) (o:AObj),s'.h[i]?=some o→o=.dead∨(o.sc s'.h.length=true∧s.h[ρ i]?=some (o.ren ρ)):=by
    intro i o hi
    rcases h2 i o hi with h|⟨ha,hb⟩|h
    · exact .inl h
    · have hi':=get_some_lt ha
      have hsc:=hc i o ha
      refine .inr ⟨asc_mono hn o hsc,?_⟩
      rw [h1 i hi',hb,aren_id h1 o hsc]
    · exact .inr h
  refine⟨sgOf σ ρ s'.h.length,?_,⟨?_,?_,k.hd,k.hsz,hn⟩,?_⟩
  · intro i hi
    rw [sgOf_get (by omega),h1 i hi]
    have:i<σ.length:=by rw [k.hk.len];have:=k.hn;omega
    simp [List.getD,this]
  · refine⟨by simp [sgOf],k.hk.low,?_,?_⟩
    · intro i o l hi hl
      have hlt:=get_some_lt hi
      rw [sgOf_get hlt] at hl
      simp only [Option.some.injEq] at hl
      rcases hid i o hi with rfl|⟨hsc,ho⟩
      · trivial
      · obtain⟨l',hl'⟩:=k.hk.sg ho
        have hobj:=k.hk.obj _ _ _ ho hl'
        have:l=l':=by rw [← hl];simp [List.getD,hl']
        subst this
        cases o with
        | dead=>trivial
        | other x =>
          cases l with
          | none=>exact hobj.elim
          | some l =>
            obtain⟨g0,g1,g2,g3⟩:=hobj
            exact⟨g0,g1,g2,ook_ren x _ hsc g3⟩
        | cells vs own =>
          simp only [AObj.sc] at hsc
          cases l with
          | none =>
            simp only [AObj.ren,ObjOK] at hobj ⊢
            cases vs with
            | nil=>rfl
            | cons v vs=>simp [renL] at hobj
          | some l =>
            obtain⟨g0,g1,g2⟩:=hobj
            have hlen:∀ vs:List AV,(renL ρ vs).length=vs.length:=by
              intro vs;induction vs with
              | nil=>rfl
              | cons v vs ih=>simp [renL,ih]
            have hget:∀ (vs:List AV) (j:Nat) (v:AV),vs[j]?=some v→(renL ρ vs)[j]?=some (v.ren ρ):=by
              intro vs;induction vs with
              | nil=>intro j v hj;simp at hj
              | cons u vs ih =>
                intro j v hj
                cases j with
                | zero=>simp only [List.getElem?_cons_zero,Option.some.injEq] at hj;subst hj;rfl
                | succ j=>simp only [renL,List.getElem?_cons_succ] at hj ⊢;exact ih j v hj
            refine⟨g0,fun j v hj=>?_,fun ho=>?_⟩
            · obtain⟨c,c1,c2⟩:=g1 j _ (hget vs j v hj)
              refine⟨c,c1,rel_ren v c ?_ c2⟩
              have:∀ (vs:List AV),scL s'.h.length vs=true→∀ (j:Nat) (v:AV),vs[j]?=some v→v.sc s'.h.length=true:=by
                intro vs;induction vs with
                | nil=>intro _ j v hj;simp at hj
                | cons u vs ih =>
                  intro hs j v hj
                  simp only [scL,Bool.and_eq_true] at hs
                  cases j with
                  | zero=>simp only [List.getElem?_cons_zero,Option.some.injEq] at hj;subst hj;exact hs.1
                  | succ j=>exact ih hs.2 j v (by simpa using hj)
              exact this vs hsc j v hj
            · have:=g2 ho
              rw [hlen] at this;exact this
    · intro i j oi oj li lj hi hj ho hv hli hlj hne
      have hlti:=get_some_lt hi
      have hltj:=get_some_lt hj
      rw [sgOf_get hlti] at hli;rw [sgOf_get hltj] at hlj
      simp only [Option.some.injEq] at hli hlj
      have hvi:oi.live=true:=by cases oi <;> simp_all [AObj.isOwn,AObj.live]
      rcases hid i oi hi with rfl|⟨_,h5⟩
      · cases hvi
      · rcases hid j oj hj with rfl|⟨_,h6⟩
        · cases hv
        · obtain⟨l5,hl5⟩:=k.hk.sg h5
          obtain⟨l6,hl6⟩:=k.hk.sg h6
          have e5:l5=some li:=by rw [← hli];simp [List.getD,hl5]
          have e6:l6=some lj:=by rw [← hlj];simp [List.getD,hl6]
          subst e5;subst e6
          exact k.hk.uniq _ _ _ _ li lj h5 h6 (by rw [(live_ren oi).2];exact ho) (by rw [(live_ren oj).1];exact hv) hl5 hl6 (h3 i j oi oj hi hj ho hv hne)
  · intro j
    rcases h4 j with hj|⟨hsc,hj⟩
    · rw [hj];trivial
    · have:=k.ht j
      rw [hj] at this
      exact rel_ren _ _ hsc this
  · refine Grow.same fun i o l hi ho hl=>?_
    have hlt:=get_some_lt hi
    rw [sgOf_get hlt] at hl
    simp only [Option.some.injEq] at hl
    rcases hid i o hi with rfl|⟨_,h5⟩
    · simp [AObj.live] at ho
    · obtain⟨l5,hl5⟩:=k.hk.sg h5
      have e5:l5=some l:=by rw [← hl];simp [List.getD,hl5]
      subst e5
      exact⟨ρ i,_,l,h5,by rw [(live_ren o).1];exact ho,fun h=>by rw [(live_ren o).2];exact h,hl5,rfl⟩
end Go.Abs
