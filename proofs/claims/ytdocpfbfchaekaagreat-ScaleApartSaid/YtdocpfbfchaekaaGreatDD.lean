/- Several texts as one. -/
import Derived.Test.YtdocpfbfchaekaaGreatCC
/- Rows of plain cells,and sums. -/
namespace Go.Proofs
open Go.Abs
attribute [local simp] AOp.den AOpd.ev lk cellsOf rd_new rd_new0 rd_zero rd_succ wr_new wr_new0 wr_zero wr_succ splice fillA binA scal sliceCells List.length_append argsT AV.sc scL AObj.sc resV getAll AR.get AOp.slots opdSlots opdsSlots partSlots eqAt at_new0 at_new set_new0 set_new wrap64
set_option linter.unusedSimpArgs false
set_option linter.unusedVariables false
def sumF (f:Nat→Int) (a:Nat):Nat→Int
  | 0=>0
  | n+1=>sumF f a n+f (a+n)
structure Plain (vs:List AV):Prop where
  scal:vs.all scal=true
  sc:∀ m,scL m vs=true
  ren:∀ ρ,renL ρ vs=vs
theorem Plain.nil:Plain []:=⟨rfl,fun _=>rfl,fun _=>rfl⟩
theorem scL_app (m:Nat):∀ xs ys:List AV,scL m (xs++ys)=(scL m xs && scL m ys)
  | [],ys=>by simp [scL]
  | x :: xs,ys=>by simp [scL,scL_app m xs ys,Bool.and_assoc]
theorem renL_app (ρ:Nat→Nat):∀ xs ys:List AV,renL ρ (xs++ys)=renL ρ xs++renL ρ ys
  | [],ys=>rfl
  | x :: xs,ys=>by simp [renL,renL_app ρ xs ys]
theorem Plain.app {xs ys:List AV} (hx:Plain xs) (hy:Plain ys):Plain (xs++ys) :=
  ⟨by simp only [List.all_append,hx.scal,hy.scal,Bool.and_self],fun m=>by rw [scL_app,hx.sc,hy.sc];rfl,fun ρ=>by rw [renL_app,hx.ren,hy.ren]⟩
structure PlainRow (k:Nat) (r:Nat→List AV):Prop where
  len:∀ j,(r j).length=k
  pl:∀ j,Plain (r j)
def avR (r:Nat→List AV) (n:Nat):List AV:=(List.range n).flatMap r
theorem avR_succ (r:Nat→List AV) (n:Nat):avR r (n+1)=avR r n++r n:=by simp [avR,List.range_succ]
theorem avR_zero (r:Nat→List AV):avR r 0=[]:=rfl
theorem PlainRow.plain {k:Nat} {r:Nat→List AV} (h:PlainRow k r):∀ n,Plain (avR r n)
  | 0=>Plain.nil
  | n+1=>by rw [avR_succ];exact (h.plain n).app (h.pl n)
theorem PlainRow.length {k:Nat} {r:Nat→List AV} (h:PlainRow k r):∀ n,(avR r n).length=n * k
  | 0=>by simp [avR_zero]
  | n+1=>by rw [avR_succ,List.length_append,h.length n,h.len n,Nat.add_mul];omega
theorem avR_congr {r r':Nat→List AV}:∀ {n:Nat},(∀ j,j<n→r j=r' j)→avR r n=avR r' n
  | 0,_=>rfl
  | n+1,h=>by rw [avR_succ,avR_succ,avR_congr fun j hj=>h j (by omega),h n (by omega)]
theorem PlainRow.row {k:Nat} {r:Nat→List AV} (h:PlainRow k r) {n i:Nat} (hi:i<n):((avR r n).drop (i * k)).take k=r i:=by
  have:=flat_row (f:=r) h.len (List.range n) i (by simpa using hi)
  simpa [avR] using this
theorem PlainRow.rd {k:Nat} {r:Nat→List AV} (h:PlainRow k r) {H:Heap} {id n i:Nat} {b:Bool} (hh:H[id]?=some (.cells (avR r n) b)) (hi:i<n):rd H id (i * k) k=some (r i):=by
  have h1:i * k+k≤(avR r n).length:=by
    rw [h.length]
    have:(i+1) * k≤n * k:=Nat.mul_le_mul_right _ hi
    rw [Nat.add_mul,Nat.one_mul] at this;exact this
  unfold Go.Abs.rd
  rw [hh]
  simp only [h1,if_true,h.row hi]
def r1 (f:Nat→Int) (j:Nat):List AV:=[.int .i64 (f j)]
def r2 (f g:Nat→Int) (j:Nat):List AV:=[.int .i64 (f j),.int .i64 (g j)]
def PlainO (o:AObj):Prop:=o=.dead∨∃ vs b,o=.cells vs b∧Plain vs
theorem Plain.o {vs:List AV} (h:Plain vs) (b:Bool):PlainO (.cells vs b):=.inr ⟨vs,b,rfl,h⟩
theorem le_plain {H G:Heap} {t t':List (Nat × AV)} (ps:List Nat) (G':Heap) (hd:ps.Nodup) (hg:ps.map (fun p=>G[p]?)=G'.map some) (hp:∀ o∈G',PlainO o)
    (hv:∀ x∈t',x.2.sc (H.length+G'.length)=true∧lk t x.1=x.2.ren (sh H.length ps)):Le H ⟨t,H++G⟩ ⟨t',H++G'⟩:=by
  have hl:G'.length=ps.length:=by
    have:=congrArg List.length hg
    simpa using this.symm
  refine le_keep ps hl hd ?_ hv
  intro k p o h1 h2
  have h3:G[p]?=some o:=by
    have:=congrArg (fun l=>l[k]?) hg
    simp [h1,h2] at this
    exact this
  rcases hp o (List.mem_of_getElem? h1) with rfl|⟨vs,b,rfl,h⟩
  · exact .inl rfl
  · exact .inr ⟨h.sc _,by rw [h3];simp [AObj.ren,h.ren]⟩
section
variable {P:Program} {H h h':Heap} {Q:Exit→St→Prop} {K:St→Prop} {t t':List (Nat × AV)} {d:Nat} {l:List AO} {op:AOp} {v:AV}
def EBegin (P:Program) (h:Heap) (id:Nat) (b:AC) (R:AV→Heap→Prop):Exit→St→Prop:=RoundBegin P h id b R
def EEnd (h:Heap) (id:Nat) (R:AV→Heap→Prop):Exit→St→Prop:=RoundEnd h id R
theorem y_of {id:Nat} {ps:List Nat} {a b:AC} {args:List AV} {R:AV→Heap→Prop} (hid:h[id]?=some (.other (.loop t ps a b .ready))) (hl:args.length=ps.length)
    (hw:Closed h→ECode P h a (EBegin P h id b R) (roundT ps args t) h):AYields P id args h R:=ayields hid hl hw
theorem q_begin {id:Nat} {ps:List Nat} {a' b b':AC} {R:AV→Heap→Prop} {tt:List (Nat × AV)} (hid:Red h'[id]? (some (.other (.loop tt ps a' b' .ready)))) {h2:Heap} (h2e:Red (h'.set id (.other (.loop tt ps a' b' .busy))) h2)
    (hn:ECode P h b (EEnd h id R) t' h2):EQ (EBegin P h id b R) .normal t' h':=by
  refine⟨rfl,?_⟩
  simp only [show h'[id]?=_ from hid]
  rw [show h'.set id (.other (.loop tt ps a' b' .busy))=h2 from h2e]
  exact hn
theorem q_end {id:Nat} {ps:List Nat} {a b:AC} {R:AV→Heap→Prop} {tt:List (Nat × AV)} (hid:Red h'[id]? (some (.other (.loop tt ps a b .busy)))) {h2 h3:Heap} (h2e:Red (h'.set id (.other (.loop tt ps a b .ready))) h2)
    (hl:LeE h ⟨[],h2⟩ ⟨[],h3⟩) (hr:R (.bool true) h3):EQ (EEnd h id R) .normal t' h':=by
  show RoundEnd h id R .normal ⟨t',h'⟩
  unfold RoundEnd
  simp only [show h'[id]?=_ from hid]
  rw [show h'.set id (.other (.loop tt ps a b .ready))=h2 from h2e]
  exact⟨h3,hl,hr⟩
theorem e_range {f:AOpd} {g:FuncId} {first caps asv:List AV} {ps:List Nat} {a b:AC} {R:AV→Heap→Prop} (hf:Red (f.ev t) (.fn (.func g) first caps)) (ht:tSc h.length t=true) (ha:Red (first++[.yield h.length]++caps) asv)
    (hc:ACalls P g asv (h++[.other (.loop t ps a b .ready)]) R) (hn:∀ v h',R v h'→RangeEnd h.length t Q h'):ECode P H (.rangeFunc f ps a b) Q t h:=by
  simp only [ECode,AC.wp,show f.ev t=_ from hf]
  exact⟨ht,R,(show _=asv from ha) ▸ hc,hn⟩
theorem range_end {id:Nat} {ps:List Nat} {a b:AC} {tt:List (Nat × AV)} (hid:Red h'[id]? (some (.other (.loop tt ps a b .ready)))) {h2:Heap} (h2e:Red (h'.set id .dead) h2) (hn:EQ Q .normal t h2):RangeEnd id t Q h':=by
  unfold RangeEnd
  simp only [show h'[id]?=_ from hid]
  rw [show h'.set id .dead=h2 from h2e]
  exact hn
theorem e_callY {f:AOpd} {id:Nat} {asv:List AV} {args:List AOpd} {R:AV→Heap→Prop} (hf:Red (f.ev t) (.yield id)) (ha:Red (args.map (AOpd.ev t)) asv) (hc:AYields P id asv h R)
    (hn:∀ v h',R v h'→EOps P l K ((d,v) :: t) h'):EOps P (⟨some d,.callV f args,none⟩ :: l) K t h:=by
  simp only [EOps,AOs.wp,AO.wp,AO.run,show f.ev t=_ from hf]
  exact⟨R,(show _=asv from ha) ▸ hc,hn⟩
theorem le_base {B X G G':Heap} (ps:List Nat) (hl:G'.length=ps.length) (hX:X.length≤ps.length) (hd:ps.Nodup) (hf:∀ k,k<X.length→ps[k]?=some k)
    (ho:∀ (k p:Nat) (o:AObj),G'[k]?=some o→ps[k]?=some p→o=.dead∨(o.sc (B.length+G'.length)=true∧G[p]?=some (o.ren (sh B.length ps)))∨(X[p]?=some o∧G[p]?=some o))
    (hv:∀ x∈t',x.2.sc (B.length+G'.length)=true∧lk t x.1=x.2.ren (sh B.length ps)):Le (B++X) ⟨t,B++G⟩ ⟨t',B++G'⟩:=by
  refine⟨by simp [hl];omega,sh B.length ps,fun i hi=>?_,?_,?_,?_⟩
  · simp only [List.length_append] at hi
    unfold sh
    split
    · rfl
    · have:=hf (i-B.length) (by omega)
      rw [List.getD_eq_getElem?_getD,this]
      simp;omega
  · intro i o hi
    simp only at hi ⊢
    rcases Nat.lt_or_ge i B.length with h|h
    · rw [List.getElem?_append_left h] at hi
      refine .inr (.inl ⟨?_,?_⟩)
      · rw [List.getElem?_append_left h];exact hi
      · rw [List.getElem?_append_left h];exact hi
    · rw [List.getElem?_append_right h] at hi
      have h2:i-B.length<ps.length:=by
        rw [← hl];exact (List.getElem?_eq_some_iff.1 hi).1
      rcases ho _ _ o hi (List.getElem?_eq_getElem h2) with h3|⟨h3,h4⟩|⟨h3,h4⟩
      · exact .inl h3
      rotate_left
      · have h5:=(List.getElem?_eq_some_iff.1 h3).1
        have h6:=hf _ h5
        obtain⟨h7,h8⟩:=List.getElem?_eq_some_iff.1 h6
        have h9:ps[i-B.length]=i-B.length:=by
          have hp:=List.pairwise_iff_getElem.1 hd
          rcases Nat.lt_trichotomy (ps[i-B.length]) (i-B.length) with h|h|h
          · exact absurd h8 (hp _ _ h7 h2 h)
          · exact h
          · exact absurd h8.symm (hp _ _ h2 h7 h)
        rw [h9] at h3 h4
        exact .inr (.inl ⟨by rw [List.getElem?_append_right h];exact h3,by rw [List.getElem?_append_right h];exact h4⟩)
      · refine .inr (.inr ⟨by simpa using h3,?_⟩)
        have:sh B.length ps i=B.length+ps[i-B.length]:=by
          simp [sh,Nat.not_lt.2 h,List.getD_eq_getElem?_getD,List.getElem?_eq_getElem h2]
        rw [this,List.getElem?_append_right (by omega)]
        simpa using h4
  · intro i j oi oj hi hj _ _ hij
    simp only at hi hj
    have e1:∀ (k:Nat) (o:AObj),(B++G')[k]?=some o→B.length≤k→∃ hk:k-B.length<ps.length,sh B.length ps k=B.length+ps[k-B.length]:=by
      intro k o hk hge
      have:=(List.getElem?_eq_some_iff.1 hk).1
      simp only [List.length_append] at this
      have h2:k-B.length<ps.length:=by omega
      exact⟨h2,by simp [sh,Nat.not_lt.2 hge,List.getD_eq_getElem?_getD,List.getElem?_eq_getElem h2]⟩
    rcases Nat.lt_or_ge i B.length with h1|h1 <;> rcases Nat.lt_or_ge j B.length with h2|h2
    · simp [sh,h1,h2,hij]
    · obtain⟨_,e⟩:=e1 j oj hj h2
      rw [e];simp only [sh,h1,if_true];omega
    · obtain⟨_,e⟩:=e1 i oi hi h1
      rw [e];simp only [sh,h2,if_true];omega
    · obtain⟨b1,e⟩:=e1 i oi hi h1
      obtain⟨b2,e'⟩:=e1 j oj hj h2
      rw [e,e']
      intro h3
      have h4:ps[i-B.length]=ps[j-B.length]:=by omega
      have hp:=List.pairwise_iff_getElem.1 hd
      rcases Nat.lt_trichotomy (i-B.length) (j-B.length) with h5|h5|h5
      · exact hp _ _ b1 b2 h5 h4
      · omega
      · exact hp _ _ b2 b1 h5 h4.symm
  · intro k
    rcases lk_mem (t:=t') k with h|h
    · exact .inl h
    · obtain⟨h1,h2⟩:=hv _ h
      exact .inr ⟨by simpa using h1,h2⟩
def KeepAll (n m:Nat) (X G:Heap) (ρ:Nat→Nat):List Nat→Heap→Prop
  | [],[]=>True
  | p :: ps,o :: os=>(o=.dead∨(o.sc (n+m)=true∧G[p]?=some (o.ren ρ))∨(X[p]?=some o∧G[p]?=some o))∧KeepAll n m X G ρ ps os
  | _,_=>False
theorem keepAll {n m:Nat} {X G:Heap} {ρ:Nat→Nat}:∀ {ps:List Nat} {G':Heap},KeepAll n m X G ρ ps G'→G'.length=ps.length∧∀ (k p:Nat) (o:AObj),G'[k]?=some o→ps[k]?=some p→o=.dead∨(o.sc (n+m)=true∧G[p]?=some (o.ren ρ))∨(X[p]?=some o∧G[p]?=some o)
  | [],[],_=>⟨rfl,fun k p o h=>by simp at h⟩
  | p :: ps,o :: os,h=>by
    obtain⟨h1,h2⟩:=keepAll h.2
    refine⟨by simp [h1],fun k p' o' h3 h4=>?_⟩
    cases k with
    | zero =>
      simp only [List.getElem?_cons_zero,Option.some.injEq] at h3 h4
      subst h3;subst h4;exact h.1
    | succ k=>exact h2 k p' o' (by simpa using h3) (by simpa using h4)
  | [],_ :: _,h=>h.elim
  | _ :: _,[],h=>h.elim
def headIs:Nat→Nat→List Nat→Bool
  | _,0,_=>true
  | i,n+1,p :: ps=>p == i && headIs (i+1) n ps
  | _,_+1,[]=>false
theorem headIs_get:∀ {n i:Nat} {ps:List Nat},headIs i n ps=true→∀ k,k<n→ps[k]?=some (i+k)
  | 0,_,_,_,k,hk=>absurd hk (by omega)
  | n+1,i,p :: ps,h,k,hk=>by
    simp only [headIs,Bool.and_eq_true,beq_iff_eq] at h
    cases k with
    | zero=>simp [h.1]
    | succ k =>
      have:=headIs_get h.2 k (by omega)
      simp only [List.getElem?_cons_succ,this,Option.some.injEq];omega
theorem le_to {B X G G':Heap} (ps:List Nat) (hX:X.length≤ps.length∧ps.Nodup∧headIs 0 X.length ps=true) (ho:KeepAll B.length G'.length X G (sh B.length ps) ps G')
    (hv:∀ x∈t',x.2.sc (B.length+G'.length)=true∧lk t x.1=x.2.ren (sh B.length ps)):Le (B++X) ⟨t,B++G⟩ ⟨t',B++G'⟩:=by
  obtain⟨h1,h2⟩:=keepAll ho
  exact le_base ps h1 hX.1 hX.2.1 (fun k hk=>by simpa using headIs_get hX.2.2 k hk) h2 hv
theorem AC.wp_mono {P:Program} {H:Heap}:∀ (c:AC) {Q Q':Exit→St→Prop} {s:St},(∀ e s,Q e s→Q' e s)→c.wp P H Q s→c.wp P H Q' s
  | .skip,_,_,_,hQ,h=>hQ _ _ h
  | .ops _ _,_,_,_,hQ,h=>AOs.wp_mono (fun _ hs=>hQ _ _ hs) h
  | .draw _ _ _,_,_,_,hQ,h=>DAO.wp_mono (fun _ hs=>hQ _ _ hs) h
  | .seq a b,_,_,_,hQ,h=>AC.wp_mono a (fun e s h=>by
      cases e <;> first|exact AC.wp_mono b hQ h|exact hQ _ _ h) h
  | .cond c a b,_,_,s,hQ,h=>by
    simp only [AC.wp] at h ⊢
    split at h
    · exact⟨fun x=>AC.wp_mono a hQ (h.1 x),fun x=>AC.wp_mono b hQ (h.2 x)⟩
    · cases h
  | .block id a,_,_,_,hQ,h=>AC.wp_mono a (fun e s h=>by
      cases e <;> simp only [ABlock] at h ⊢ <;> first
        | exact hQ _ _ h
        | (split at h
           · rename_i h1;rw [if_pos h1];exact hQ _ _ h
           · rename_i h1;rw [if_neg h1];exact hQ _ _ h)) h
  | .loop a,_,_,_,hQ,⟨ι,S,μ,i,h0,h⟩=>⟨ι,S,μ,i,h0,fun i=>AC.wp_mono a (fun e s h=>by
      cases e <;> first|exact h|exact hQ _ _ h) (h i)⟩
  | .scope a,_,_,_,hQ,h=>AC.wp_mono a (fun e s h=>by
      cases e <;> simp only [AScope] at h ⊢ <;> exact hQ _ _ h) h
  | .exit _,_,_,_,hQ,h=>hQ _ _ h
  | .ret,_,_,_,hQ,h=>hQ _ _ h
  | .rangeFunc f ps a b,_,_,s,hQ,h=>by
    simp only [AC.wp] at h ⊢
    split at h
    · obtain⟨h1,R,h2,h3⟩:=h
      refine⟨h1,R,h2,fun v h' hr=>?_⟩
      have:=h3 v h' hr
      unfold RangeEnd at this ⊢
      split at this
      · exact hQ _ _ this
      · exact hQ _ _ this
      · cases this
    · cases h
  | .bad,_,_,_,_,h=>by cases h
def ECut (R:List (Nat × AV)→Heap→Prop) (Q:Exit→St→Prop) (e:Exit) (s:St):Prop:=match e with
  | .normal=>R s.t s.h
  | e=>Q e s
end
section
variable {P:Program} {ps:List (List Nat)} {h h':Heap} {K:St→Prop} {t:List (Nat × AV)} {d i:Nat} {l:List AO} {op:AOp} {v:AV} {past:List (Nat × Heap)} {rds:List Rd} {c:Prop} {r:Den}
end
theorem le_to0 {B G G':Heap} {t t':List (Nat × AV)} (ps:List Nat) (hX:ps.Nodup) (ho:KeepAll B.length G'.length [] G (sh B.length ps) ps G')
    (hv:∀ x∈t',x.2.sc (B.length+G'.length)=true∧lk t x.1=x.2.ren (sh B.length ps)):Le B ⟨t,B++G⟩ ⟨t',B++G'⟩:=by
  have:=le_to (B:=B) (X:=[]) (G:=G) (G':=G') (t:=t) (t':=t') ps ⟨by simp,hX,rfl⟩ ho hv
  simpa using this
def mLo (l:List Str) (i:Nat):Int:=sumF (fun j=>(strAt l j).lLo) 0 i
def mHi (l:List Str) (i:Nat):Int:=sumF (fun j=>(strAt l j).lHi) 0 i
def plA:AC:=.ops [⟨some 5,.alloc [.int .i64 0,.int .i64 0],none⟩,⟨none,.store (.t 5) 2 (.t 9),none⟩] (some [3,5])
def plB:AC:=.block 1 (.ops [⟨some 10,.load1 (.t 3),none⟩,⟨some 11,.loadN (.t 5) 2,none⟩,⟨some 12,.buildSlice [.int .i64 0,.int .i64 0] [(0,2,.t 11)] 1 2,none⟩,⟨some 13,.append (.t 10) (.t 12) 2 16,none⟩,⟨none,.store (.t 3) 1 (.t 13),none⟩] (some []))
section
variable {P:Program} {ps:List (List Nat)} {H h h':Heap} {Q:Exit→St→Prop} {K:St→Prop} {t t':List (Nat × AV)} {d i:Nat} {l:List AO} {op:AOp} {v:AV} {past:List (Nat × Heap)} {rds:List Rd}
end
structure Kind where
  num:Int
  g:FuncId
  c:Nat
  p:Str→Int
  q:Str→Int
structure Kind.OK (k:Kind):Prop where
  call:∀ (H:Heap) (id off:Nat),id<H.length→ACalls Try.prog k.g [.ptr id off] H (fun v h'=>v=.ptr id (off+k.c)∧h'=H)
  le:k.c+2≤9
  row:∀ s:Str,(s.av.drop k.c).take 2=[.int .i64 (k.p s),.int .i64 (k.q s)]
  bd:∀ s:Str,s.ok→0≤k.p s∧k.p s≤k.q s∧k.q s≤30000
def kLo (k:Kind) (l:List Str) (j:Nat):Int:=k.p (strAt l j)
def kHi (k:Kind) (l:List Str) (j:Nat):Int:=k.q (strAt l j)
def LAt (h:Heap) (sz:Nat) (v:AV) (cs:List AV) (n:Nat):Prop :=
  cs.length=n * sz∧((v=.nilslice∧n=0)∨∃ id ex,v=.slice id 0 n sz ex∧h[id]?=some (.cells cs true))
def isId:AV→Nat→Prop
  | .slice id _ _ _ _,i=>id=i
  | _,_=>False
theorem LAt.nil (h:Heap) (sz:Nat):LAt h sz .nilslice [] 0:=⟨by simp,.inl ⟨rfl,rfl⟩⟩
theorem LAt.of {h:Heap} {id:Nat} {cs:List AV} (hh:h[id]?=some (.cells cs true)) {n sz:Nat} (hc:cs.length=n * sz) (ex:Bool):LAt h sz (.slice id 0 n sz ex) cs n:=⟨hc,.inr ⟨id,ex,rfl,hh⟩⟩
theorem LAt.cells {h:Heap} {sz:Nat} {v:AV} {cs:List AV} {n:Nat} (hl:LAt h sz v cs n):sliceCells h sz v=some (n,cs):=by
  obtain⟨hc,⟨rfl,rfl⟩|⟨id,ex,rfl,hh⟩⟩:=hl
  · obtain rfl:cs=[]:=by simpa using hc
    rfl
  · simp only [sliceCells,if_true,rd,hh]
    rw [if_pos (by omega)]
    simp only [List.drop_zero,Option.map_some,← hc,List.take_length]
theorem LAt.len {h:Heap} {sz:Nat} {v:AV} {cs:List AV} {n:Nat} (hl:LAt h sz v cs n) {ev:AOpd→AV} {x:AOpd} (hx:ev x=v):(AOp.len x).den ev h=.ok True (.int .i64 n) h:=by
  obtain⟨hc,⟨rfl,rfl⟩|⟨id,ex,rfl,hh⟩⟩:=hl <;> simp [AOp.den,hx]
theorem LAt.keep {h h':Heap} {sz:Nat} {v:AV} {cs:List AV} {n:Nat} (hl:LAt h sz v cs n) (hk:∀ i,isId v i→h'[i]?=h[i]?):LAt h' sz v cs n:=by
  obtain⟨hc,⟨rfl,rfl⟩|⟨id,ex,rfl,hh⟩⟩:=hl
  · exact⟨hc,.inl ⟨rfl,rfl⟩⟩
  · exact⟨hc,.inr ⟨id,ex,rfl,by rw [hk id rfl];exact hh⟩⟩
theorem LAt.app {h:Heap} {sz:Nat} {v:AV} {cs:List AV} {n:Nat} (hl:LAt h sz v cs n) (G:Heap):LAt (h++G) sz v cs n:=by
  refine hl.keep fun i hi=>?_
  obtain⟨hc,⟨rfl,rfl⟩|⟨id,ex,rfl,hh⟩⟩:=hl
  · exact hi.elim
  · obtain rfl:id=i:=hi
    rw [List.getElem?_append_left (List.getElem?_eq_some_iff.1 hh).1]
theorem LAt.lt {h:Heap} {sz:Nat} {v:AV} {cs:List AV} {n:Nat} (hl:LAt h sz v cs n) {i:Nat} (hi:isId v i):i<h.length:=by
  obtain⟨hc,⟨rfl,rfl⟩|⟨id,ex,rfl,hh⟩⟩:=hl
  · exact hi.elim
  · obtain rfl:id=i:=hi
    exact (List.getElem?_eq_some_iff.1 hh).1
theorem LAt.sc {h:Heap} {sz:Nat} {v:AV} {cs:List AV} {n:Nat} (hl:LAt h sz v cs n) {m:Nat} (hm:h.length≤m):v.sc m=true:=by
  obtain⟨hc,⟨rfl,rfl⟩|⟨id,ex,rfl,hh⟩⟩:=hl
  · rfl
  · have:=(List.getElem?_eq_some_iff.1 hh).1
    simp [AV.sc];omega
theorem app_den {h:Heap} {sz bytes n m:Nat} {v w:AV} {cs new:List AV} {ev:AOpd→AV} {x y:AOpd} (hx:ev x=v) (hy:ev y=w) (hl:LAt h sz v cs n) (hw:sliceCells h sz w=some (m,new)) (hsc:new.all scal=true) (hb:(n+m) * bytes≤140737488355328) :
    ∃ h1:Heap,(AOp.append x y sz bytes).den ev h=.ok (new.all scal=true∧(n+m) * bytes≤140737488355328∧True) (.slice h.length 0 (n+m) sz false) (h1++[.cells (cs++new) true])∧h1.length=h.length∧(∀ i,¬ isId v i→h1[i]?=h[i]?) ∨
    (AOp.append x y sz bytes).den ev h=.ok (new.all scal=true∧(n+m) * bytes≤140737488355328) (.slice h.length 0 (n+m) sz false) (h1++[.cells (cs++new) true])∧h1.length=h.length∧(∀ i,¬ isId v i→h1[i]?=h[i]?):=by
  have hcl:=hl.cells
  obtain⟨hc,⟨rfl,rfl⟩|⟨id,ex,rfl,hh⟩⟩:=hl
  · obtain rfl:cs=[]:=by simpa using hc
    refine⟨h,.inr ⟨?_,rfl,fun _ _=>rfl⟩⟩
    simp only [AOp.den,hx,hy,hcl,hw,Nat.zero_add,List.nil_append]
  · refine⟨h.set id .dead,.inl ⟨?_,by simp,fun i hi=>?_⟩⟩
    · simp only [AOp.den,hx,hy,hcl,hw,hh,and_true]
    · rw [List.getElem?_set_ne (by exact hi)]
theorem e_app {P:Program} {l:List AO} {K:St→Prop} {t:List (Nat × AV)} {h:Heap} {d sz bytes n m:Nat} {v w:AV} {cs new:List AV} {x y:AOpd}
    (hx:Red (x.ev t) v) (hy:Red (y.ev t) w) (hl:LAt h sz v cs n) (hw:sliceCells h sz w=some (m,new)) (hsc:new.all scal=true) (hb:(n+m) * bytes≤140737488355328)
    (hn:∀ h':Heap,h'.length=h.length+1→(∀ i,i<h.length→¬ isId v i→h'[i]?=h[i]?)→LAt h' sz (.slice h.length 0 (n+m) sz false) (cs++new) (n+m)→EOps P l K ((d,.slice h.length 0 (n+m) sz false) :: t) h') :
    EOps P (⟨some d,.append x y sz bytes,none⟩ :: l) K t h:=by
  have hnl:new.length=m * sz:=by
    cases w <;> simp only [sliceCells] at hw <;> try contradiction
    · split at hw
      · rename_i id off len sz' ex e
        simp only [Option.map_eq_some_iff] at hw
        obtain⟨a,ha,hb⟩:=hw
        simp only [Prod.mk.injEq] at hb
        obtain⟨rfl,rfl⟩:=hb
        unfold rd at ha
        split at ha
        · split at ha
          · simp only [Option.some.injEq] at ha
            subst ha
            simp only [List.length_take,List.length_drop];omega
          · cases ha
        · cases ha
      · cases hw
    · simp only [Option.some.injEq,Prod.mk.injEq] at hw
      obtain⟨rfl,rfl⟩:=hw
      simp
  have fin:∀ h1:Heap,h1.length=h.length→(∀ i,¬ isId v i→h1[i]?=h[i]?)→EOps P l K ((d,.slice h.length 0 (n+m) sz false) :: t) (h1++[.cells (cs++new) true]):=fun h1 e1 e2=>by
    refine hn _ (by simp [e1]) (fun i hi hv=>?_) (LAt.of (by rw [List.getElem?_append_right (by omega),e1];simp) (by rw [List.length_append,hl.1,hnl,Nat.add_mul]) false)
    rw [List.getElem?_append_left (by omega)];exact e2 i hv
  obtain⟨h1,⟨h2,e1,e2⟩|⟨h2,e1,e2⟩⟩:=app_den (bytes:=bytes) hx hy hl hw hsc hb
  · exact e_op rfl h2 Rz ⟨hsc,hb,trivial⟩ (fin h1 e1 e2)
  · exact e_op rfl h2 Rz ⟨hsc,hb⟩ (fin h1 e1 e2)
def RAt (h:Heap) (sz:Nat) (v:AV) (cs:List AV) (n:Nat):Prop :=
  cs.length=n * sz∧((v=.nilslice∧n=0)∨∃ id off ex,v=.slice id off n sz ex∧rd h id off (n * sz)=some cs)
theorem LAt.r {h:Heap} {sz:Nat} {v:AV} {cs:List AV} {n:Nat} (hl:LAt h sz v cs n):RAt h sz v cs n:=by
  obtain⟨hc,⟨rfl,rfl⟩|⟨id,ex,rfl,hh⟩⟩:=hl
  · exact⟨hc,.inl ⟨rfl,rfl⟩⟩
  · refine⟨hc,.inr ⟨id,0,ex,rfl,?_⟩⟩
    simp only [rd,hh]
    rw [if_pos (by omega)]
    simp only [List.drop_zero,← hc,List.take_length]
theorem RAt.len {h:Heap} {sz:Nat} {v:AV} {cs:List AV} {n:Nat} (hl:RAt h sz v cs n) (h0:Heap) {ev:AOpd→AV} {x:AOpd} (hx:ev x=v):(AOp.len x).den ev h0=.ok True (.int .i64 n) h0:=by
  obtain⟨hc,⟨rfl,rfl⟩|⟨id,off,ex,rfl,hh⟩⟩:=hl <;> simp [AOp.den,hx]
theorem RAt.sc {h:Heap} {sz:Nat} {v:AV} {cs:List AV} {n:Nat} (hl:RAt h sz v cs n) {m:Nat} (hm:h.length≤m):v.sc m=true:=by
  obtain⟨hc,⟨rfl,rfl⟩|⟨id,off,ex,rfl,hh⟩⟩:=hl
  · rfl
  · have:=rd_lt hh
    simp [AV.sc];omega
theorem RAt.keep {h h':Heap} {sz:Nat} {v:AV} {cs:List AV} {n:Nat} (hl:RAt h sz v cs n) (hk:∀ i,isId v i→h'[i]?=h[i]?):RAt h' sz v cs n:=by
  obtain⟨hc,⟨rfl,rfl⟩|⟨id,off,ex,rfl,hh⟩⟩:=hl
  · exact⟨hc,.inl ⟨rfl,rfl⟩⟩
  · refine⟨hc,.inr ⟨id,off,ex,rfl,?_⟩⟩
    have:=hk id rfl
    unfold rd at hh ⊢
    rw [this];exact hh
theorem RAt.lt {h:Heap} {sz:Nat} {v:AV} {cs:List AV} {n:Nat} (hl:RAt h sz v cs n) {i:Nat} (hi:isId v i):i<h.length:=by
  obtain⟨hc,⟨rfl,rfl⟩|⟨id,off,ex,rfl,hh⟩⟩:=hl
  · exact hi.elim
  · obtain rfl:id=i:=hi
    exact rd_lt hh
theorem RAt.app {h:Heap} {sz:Nat} {v:AV} {cs:List AV} {n:Nat} (hl:RAt h sz v cs n) (G:Heap):RAt (h++G) sz v cs n :=
  hl.keep fun i hi=>by rw [List.getElem?_append_left (hl.lt hi)]
theorem RAt.cells {h:Heap} {sz:Nat} {v:AV} {cs:List AV} {n:Nat} (hl:RAt h sz v cs n):sliceCells h sz v=some (n,cs):=by
  obtain⟨hc,⟨rfl,rfl⟩|⟨id,off,ex,rfl,hh⟩⟩:=hl
  · obtain rfl:cs=[]:=by simpa using hc
    rfl
  · simp only [sliceCells,if_true,hh,Option.map_some]
theorem RAt.slice {h:Heap} {sz:Nat} {v:AV} {cs:List AV} {n:Nat} (hl:RAt h sz v cs n) (h0:0<n):∃ id off ex,v=.slice id off n sz ex∧rd h id off (n * sz)=some cs:=by
  obtain⟨hc,⟨rfl,rfl⟩|h⟩:=hl
  · omega
  · exact h
def iv (l:List Int):List AV:=l.map (.int .i64)
theorem iv_app (l m:List Int):iv (l++m)=iv l++iv m:=by simp [iv]
def IAt (h:Heap) (v:AV) (l:List Int):Prop:=RAt h 1 v (iv l) l.length
theorem IAt.get {h:Heap} {v:AV} {l:List Int} (hl:IAt h v l) {i:Nat} (hi:i<l.length):∃ id off ex,v=.slice id off l.length 1 ex∧rd h id (off+i) 1=some [.int .i64 l[i]]∧id<h.length:=by
  obtain⟨id,off,ex,rfl,hh⟩:=RAt.slice hl (by omega)
  refine⟨id,off,ex,rfl,?_,rd_lt hh⟩
  have e:=rd_at hh hi
  rw [Nat.mul_one] at e
  rw [e]
  simp only [Nat.mul_one,iv,Option.some.injEq]
  apply List.ext_getElem
  · simp;omega
  · intro k h1 h2
    simp only [List.length_cons,List.length_nil] at h2
    obtain rfl:k=0:=by omega
    simp
def PlAt (h:Heap) (v:AV) (n:Nat) (L:Nat→List Int):Prop :=
  ∃ (pid off:Nat) (ex:Bool) (vs:Nat→AV),v=.slice pid off n 1 ex∧rd h pid off (n * 1)=some ((List.range n).map vs)∧∀ k,k<n→IAt h (vs k) (L k)
theorem PlAt.get {h:Heap} {v:AV} {n:Nat} {L:Nat→List Int} (hp:PlAt h v n L):∃ pid off ex,v=.slice pid off n 1 ex∧pid<h.length∧∀ k,k<n→∃ x,rd h pid (off+k) 1=some [x]∧IAt h x (L k):=by
  obtain⟨pid,off,ex,vs,rfl,hr,hv⟩:=hp
  refine⟨pid,off,ex,rfl,rd_lt hr,fun k hk=>⟨vs k,?_,hv k hk⟩⟩
  have e:=rd_at hr hk
  rw [Nat.mul_one] at e
  rw [e]
  simp only [Nat.mul_one,Option.some.injEq]
  apply List.ext_getElem
  · simp;omega
  · intro j h1 h2
    simp only [List.length_cons,List.length_nil] at h2
    obtain rfl:j=0:=by omega
    simp
theorem PlAt.app {h:Heap} {v:AV} {n:Nat} {L:Nat→List Int} (hp:PlAt h v n L) (G:Heap):PlAt (h++G) v n L:=by
  obtain⟨pid,off,ex,vs,rfl,hr,hv⟩:=hp
  refine⟨pid,off,ex,vs,rfl,?_,fun k hk=>(hv k hk).app G⟩
  have:=rd_lt hr
  unfold rd at hr ⊢
  rw [List.getElem?_append_left this];exact hr
theorem avR_split (r:Nat→List AV) (i:Nat):∀ m,avR r (i+1+m)=avR r i++(r i++avR (fun j=>r (i+1+j)) m)
  | 0=>by rw [Nat.add_zero,avR_succ,avR_zero,List.append_nil]
  | m+1=>by
    rw [← Nat.add_assoc,avR_succ,avR_split r i m,avR_succ]
    simp only [List.append_assoc]
theorem avR_split' (r:Nat→List AV) {i n:Nat} (h:i<n):avR r n=avR r i++(r i++avR (fun j=>r (i+1+j)) (n-i-1)):=by
  have:=avR_split r i (n-i-1)
  rwa [show i+1+(n-i-1)=n by omega] at this
theorem PlainRow.part {k:Nat} {r:Nat→List AV} (h:PlainRow k r) {n i c m:Nat} (hi:i<n) (hc:c+m≤k):((avR r n).drop (i * k+c)).take m=((r i).drop c).take m:=by
  have h1:=h.row hi
  rw [← h1,List.drop_take,List.take_take,List.drop_drop,Nat.min_eq_left (by omega)]
theorem PlainRow.put {k:Nat} {r r':Nat→List AV} (h:PlainRow k r) (h':PlainRow k r') {n i c:Nat} {xs:List AV} (hi:i<n) (hc:c+xs.length≤k) (he:r' i=splice (r i) c xs) (hne:∀ j,j<n→j≠i→r' j=r j) :
    splice (avR r n) (i * k+c) xs=avR r' n:=by
  have e1:avR r' i=avR r i:=avR_congr fun j hj=>hne j (by omega) (by omega)
  have e2:avR (fun j=>r' (i+1+j)) (n-i-1)=avR (fun j=>r (i+1+j)) (n-i-1):=avR_congr fun j hj=>hne _ (by omega) (by omega)
  have l1:=h.length i
  have l2:=h.len i
  rw [avR_split' r hi,avR_split' r' hi,e1,e2,he]
  simp only [splice]
  rw [List.take_append,List.drop_append,List.drop_append,List.take_of_length_le (by omega),l1]
  simp only [show i * k+c-i * k=c by omega,show i * k+c+xs.length-i * k=c+xs.length by omega]
  rw [List.drop_eq_nil_of_le (show (avR r i).length≤i * k+c+xs.length by omega),List.take_append_of_le_length (by omega),List.nil_append,l2,show c+xs.length-k=0 by omega,List.drop_zero]
  simp only [List.append_assoc]
theorem plain_fun (S:Nat→Str):PlainRow 9 (fun j=>(S j).av):=⟨fun _=>rfl,fun _=>⟨rfl,fun _=>rfl,fun _=>rfl⟩⟩
def updS (S:Nat→Str) (i:Nat) (x:Str) (j:Nat):Str:=if j=i then x else S j
theorem lenS (S:Nat→Str) (n:Nat):(avR (fun j=>(S j).av) n).length=n * 9:=(plain_fun S).length n
def listS (S:Nat→Str) (n:Nat):List Str:=(List.range n).map S
theorem rd_full {H:Heap} {id:Nat} {vs:List AV} {b:Bool} (h:H[id]?=some (.cells vs b)) {n:Nat} (hn:vs.length=n):rd H id 0 n=some vs:=by
  subst hn;simp [rd,h]
def Changed (H H2:Heap):Prop:=H2.length=H.length∧∀ (i:Nat) (o:AObj),H2[i]?=some o→H[i]?=some o∨PlainO o
theorem Changed.trans {H H2 H3:Heap} (h1:Changed H H2) (h2:Changed H2 H3):Changed H H3 :=
  ⟨h2.1.trans h1.1,fun i o h=>(h2.2 i o h).elim (fun h=>h1.2 i o h) .inr⟩
def avK (xs:List Nat):List AV:=xs.map fun k:Nat=>.int .i64 (k:Int)
def pV (n:Nat) (xs:List Nat):AV:=if xs=[] then .nilslice else .slice n 0 xs.length 1 false
def pH (H:Heap) (xs:List Nat):Heap:=if xs=[] then H else H++[.cells (avK xs) true]
def selF (sel:Nat→Bool) (n:Nat):List Nat:=(List.range n).filter sel
def plSel (l:List Str) (at_:Int) (i:Nat):Bool:=decide (mLo l i≤at_∧(i=l.length∨at_<mHi l (i+1)))
def plL_ (l:List Str) (at_:Int):List Nat:=selF (plSel l at_) (l.length+1)
def lsV (H:Heap) (sz n:Nat):AV:=if n=0 then .nilslice else .slice H.length 0 n sz false
def lsO (n:Nat) (cs:List AV):Heap:=if n=0 then [] else [AObj.cells cs true]
def AAt (h:Heap) (sz:Nat) (v:AV) (cs:List AV) (n:Nat):Prop :=
  cs.length=n * sz∧((v=.nilslice∧n=0)∨∃ id,0<n∧v=.slice id 0 n sz false∧h[id]?=some (.cells cs true))
theorem AAt.l {h:Heap} {sz:Nat} {v:AV} {cs:List AV} {n:Nat} (hl:AAt h sz v cs n):LAt h sz v cs n:=by
  obtain⟨hc,h1|⟨id,h0,rfl,hh⟩⟩:=hl
  · exact⟨hc,.inl h1⟩
  · exact⟨hc,.inr ⟨id,false,rfl,hh⟩⟩
theorem AAt.nil (h:Heap) (sz:Nat):AAt h sz .nilslice [] 0:=⟨by simp,.inl ⟨rfl,rfl⟩⟩
theorem AAt.of {h:Heap} {sz id:Nat} {cs:List AV} {n:Nat} (hl:LAt h sz (.slice id 0 n sz false) cs n) (h0:0<n):AAt h sz (.slice id 0 n sz false) cs n:=by
  obtain⟨hc,⟨h1,_⟩|⟨i,ex,h1,hh⟩⟩:=hl
  · cases h1
  · cases h1;exact⟨hc,.inr ⟨_,h0,rfl,hh⟩⟩
theorem AAt.app {h:Heap} {sz:Nat} {v:AV} {cs:List AV} {n:Nat} (hl:AAt h sz v cs n) (G:Heap):AAt (h++G) sz v cs n:=by
  obtain⟨hc,h1|⟨id,h0,rfl,hh⟩⟩:=hl
  · exact⟨hc,.inl h1⟩
  · exact⟨hc,.inr ⟨id,h0,rfl,by rw [List.getElem?_append_left (List.getElem?_eq_some_iff.1 hh).1];exact hh⟩⟩
theorem ls_at (H:Heap) {sz n:Nat} {cs:List AV} (hc:cs.length=n * sz):AAt (H++lsO n cs) sz (lsV H sz n) cs n:=by
  by_cases h0:n=0
  · subst h0;exact⟨hc,.inl ⟨rfl,rfl⟩⟩
  · refine⟨hc,.inr ⟨H.length,by omega,by simp [lsV,h0],?_⟩⟩
    simp [lsO,h0]
theorem ls_sc (H:Heap) (sz n:Nat) (cs:List AV):(lsV H sz n).sc (H.length+(lsO n cs).length)=true:=by
  unfold lsV lsO;split <;> simp [AV.sc]
theorem le_ls {H G:Heap} {n sz:Nat} {cs:List AV} {v:AV} (f:AV→AV) (hf:∀ x ρ,(f x).ren ρ=f (x.ren ρ)) (hfs:∀ x m,x.sc m=true→(f x).sc m=true) (hcs:Plain cs) (hl:AAt (H++G) sz v cs n) (hb:∀ i,isId v i→H.length≤i) :
    Le H ⟨[(0,f v)],H++G⟩ ⟨[(0,f (lsV H sz n))],H++lsO n cs⟩:=by
  obtain⟨hc,⟨rfl,rfl⟩|⟨id,h0,rfl,hh⟩⟩:=hl
  · simp only [lsV,lsO,if_true,List.append_nil]
    exact le_drop (by simpa [lk] using hfs _ _ rfl)
  · have h1:=hb id rfl
    rw [List.getElem?_append_right h1] at hh
    have hn:¬ n=0:=by omega
    simp only [lsV,lsO,if_neg hn]
    refine le_plain [id-H.length] [AObj.cells cs true] (by simp) (by simp [hh]) (by intro o ho;simp only [List.mem_singleton] at ho;subst ho;exact hcs.o true) ?_
    intro x hx
    simp only [List.mem_singleton] at hx
    subst hx
    refine⟨hfs _ _ (by simp [AV.sc]),?_⟩
    simp only [lk,if_true,hf,AV.ren]
    congr 2
    simp [sh];omega
theorem ext_of {A h':Heap} (hl:A.length≤h'.length) (hk:∀ i,i<A.length→h'[i]?=A[i]?):∃ G,h'=A++G:=by
  refine⟨h'.drop A.length,?_⟩
  apply List.ext_getElem?
  intro i
  rcases Nat.lt_or_ge i A.length with h|h
  · rw [hk i h,List.getElem?_append_left h]
  · rw [List.getElem?_append_right h,List.getElem?_drop];congr 1;omega
theorem e_appA {P:Program} {l:List AO} {K:St→Prop} {t:List (Nat × AV)} {h A G:Heap} {d sz bytes n m:Nat} {v w:AV} {cs new:List AV} {x y:AOpd} (he:h=A++G)
    (hx:Red (x.ev t) v) (hy:Red (y.ev t) w) (hl:AAt h sz v cs n) (hvi:∀ i,isId v i→A.length≤i) (hw:sliceCells h sz w=some (m,new)) (hsc:new.all scal=true) (hb:(n+m) * bytes≤140737488355328) (h0:0<n+m)
    (hn:∀ (G':Heap) (v':AV),AAt (A++G') sz v' (cs++new) (n+m)→(∀ i,isId v' i→A.length≤i)→(∀ i,i<h.length→¬ isId v i→(A++G')[i]?=h[i]?)→(∀ i,isId v' i→h.length≤i)→h.length≤(A++G').length→EOps P l K ((d,v') :: t) (A++G')) :
    EOps P (⟨some d,.append x y sz bytes,none⟩ :: l) K t h:=by
  refine e_app hx hy hl.l hw hsc hb fun h2 e1 e2 e3=>?_
  have hA:A.length≤h.length:=by rw [he];simp
  obtain⟨G2,rfl⟩:=ext_of (A:=A) (h':=h2) (by omega) (by
    intro k hk
    rw [e2 k (by omega) (fun hid=>by have:=hvi k hid;omega),he,List.getElem?_append_left hk])
  refine hn G2 _ (AAt.of e3 h0) (fun i hi=>?_) (fun i hi hv=>e2 i hi hv) (fun i hi=>?_) (by omega)
  · have:h.length=i:=hi
    omega
  · have:h.length=i:=hi
    omega
end Go.Proofs
