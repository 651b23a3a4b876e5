/- What comes in, read as abstract values over objects that are not the call's own. -/
import Derived.Test.YtdocpfbfchaekaaGreatA22
import Derived.Deep.Slices
namespace Go.Abs
open Go.RowKit Go.ChangeShapes
inductive QK where
  | int (k:IntKind)
  | bool
  | str
  | sl (e:List QK)
mutual
def QK.look (h:Heap):QK→AV→Prop
  | .int k,v=>∃ n,v=.int k n∧k.min≤n∧n≤k.max
  | .bool,v=>∃ b,v=.bool b
  | .str,v=>∃ s,v=.str s∧s.size≤maxLen
  | .sl ks,v=>∃ (id:Nat) (rows:List (List AV)),v=.slice id 0 rows.length ks.length false∧rows.length≤maxLen∧h[id]?=some (.cells rows.flatten false)∧∀ r∈rows,lookL h ks r
def lookL (h:Heap):List QK→List AV→Prop
  | [],r=>r=[]
  | k :: ks,r=>∃ v vs,r=v :: vs∧k.look h v∧lookL h ks vs
end
mutual
theorem QK.look.mono {h g:Heap}:∀ (k:QK) (v:AV),k.look h v→k.look (h++g) v
  | .int k,v,hl=>by simpa only [QK.look] using hl
  | .bool,v,hl=>by simpa only [QK.look] using hl
  | .str,v,hl=>by simpa only [QK.look] using hl
  | .sl ks,v,hl=>by
    simp only [QK.look] at hl ⊢
    obtain⟨id,rows,h1,h2,h3,h4⟩:=hl
    exact⟨id,rows,h1,h2,by rw [List.getElem?_append_left (List.getElem?_eq_some_iff.1 h3).1];exact h3,fun r hr=>lookL.mono ks r (h4 r hr)⟩
theorem lookL.mono {h g:Heap}:∀ (ks:List QK) (r:List AV),lookL h ks r→lookL (h++g) ks r
  | [],r,hl=>by simpa only [lookL] using hl
  | k :: ks,r,hl=>by
    simp only [lookL] at hl ⊢
    obtain⟨v,vs,h1,h2,h3⟩:=hl
    exact⟨v,vs,h1,QK.look.mono k v h2,lookL.mono ks vs h3⟩
end
theorem lookL.length {h:Heap}:∀ {ks:List QK} {r:List AV},lookL h ks r→r.length=ks.length
  | [],r,hl=>by simp only [lookL] at hl;subst hl;rfl
  | k :: ks,r,hl=>by
    simp only [lookL] at hl
    obtain⟨v,vs,rfl,_,h3⟩:=hl
    simp [h3.length]
theorem lookL.append {h:Heap}:∀ {ks ks':List QK} {r r':List AV},lookL h ks r→lookL h ks' r'→lookL h (ks++ks') (r++r')
  | [],_,r,_,hl,h'=>by simp only [lookL] at hl;subst hl;exact h'
  | k :: ks,_,r,_,hl,h'=>by
    simp only [lookL] at hl
    obtain⟨v,vs,rfl,h2,h3⟩:=hl
    exact⟨v,vs++_,rfl,h2,h3.append h'⟩
section
variable (P:Program)
def flds (g:TypeId→Option (List QK)):List Field→Nat→Option (List QK)
  | [],_=>some []
  | f :: r,off=>match g f.type,flds g r (off+P.cellsOf f.type) with
    | some a,some b=>if f.offset=off∧a.length=P.cellsOf f.type then some (a++b) else none
    | _,_=>none
def shp:Nat→TypeId→Option (List QK)
  | 0,_=>none
  | n+1,t=>match P.underlying t with
    | some (.int k)=>some [.int k]
    | some .bool=>some [.bool]
    | some .string=>some [.str]
    | some (.struct fs)=>match flds P (shp n) fs.toList 0 with
      | some ks=>if ks.length=P.cellsOf t then some ks else none
      | none=>none
    | some (.slice e)=>match shp n e with
      | some ks=>if ks.length=P.cellsOf e∧0<ks.length then some [.sl ks] else none
      | none=>none
    | _=>none
end
def noOwn (h:Heap):Prop:=∀ (i:Nat) (o:AObj),h[i]?=some o→o.isOwn=false
theorem HeapOK.given {P:Program} {B:Nat} {σ:Sg} {h:Heap} {w:World} (k:HeapOK P B σ h w) (hn:noOwn h) (l:Loc) (hb:l.blk<w.heap.size) {vs:List AV}
    (hc:∀ (j:Nat) (v:AV),vs[j]?=some v→∃ c,w.cell? ⟨l.blk,l.base+j,none⟩=some c∧Rel σ v c):HeapOK P B (σ++[some l]) (h++[.cells vs false]) w:=by
  refine⟨by simp [k.len],k.low,?_,?_⟩
  · intro i o l' hi hl
    rcases append_cases hi with⟨h1,h2⟩|⟨h1,h2⟩
    · rw [List.getElem?_append_left (by rw [k.len];exact h1)] at hl
      exact (k.obj i o l' h2 hl).mono (Ext.app _ _)
    · subst h1;subst h2
      rw [← k.len] at hl;simp at hl;subst hl
      refine⟨hb,fun j v hj=>?_,fun h=>by cases h⟩
      obtain⟨c,a,b⟩:=hc j v hj
      exact⟨c,a,Rel.mono (Ext.app _ _) _ _ b⟩
  · intro i j oi oj li lj hi hj ho hv hli hlj hne
    rcases append_cases hi with⟨h1,h2⟩|⟨h1,h2⟩
    · rw [hn i oi h2] at ho;cases ho
    · subst h2;cases ho
theorem noOwn.app {h:Heap} (hn:noOwn h) (vs:List AV):noOwn (h++[.cells vs false]):=by
  intro i o hi
  rcases append_cases hi with⟨h1,h2⟩|⟨h1,h2⟩
  · exact hn i o h2
  · subst h2;rfl
def Opened (P:Program) (B:Nat) (σ:Sg) (h:Heap) (w:World) (K:Sg→Heap→Prop):Prop :=
  ∃ (τ:Sg) (g:Heap),HeapOK P B (σ++τ) (h++g) w∧noOwn (h++g)∧K (σ++τ) (h++g)
theorem Opened.bind {P:Program} {B:Nat} {σ:Sg} {h:Heap} {w:World} {K K':Sg→Heap→Prop} (o:Opened P B σ h w K)
    (f:∀ τ g,HeapOK P B (σ++τ) (h++g) w→noOwn (h++g)→K (σ++τ) (h++g)→Opened P B (σ++τ) (h++g) w K'):Opened P B σ h w K':=by
  obtain⟨τ,g,h1,h2,h3⟩:=o
  obtain⟨τ',g',k1,k2,k3⟩:=f τ g h1 h2 h3
  exact⟨τ++τ',g++g',by simpa using k1,by simpa using k2,by simpa using k3⟩
theorem Opened.pure {P:Program} {B:Nat} {σ:Sg} {h:Heap} {w:World} {K:Sg→Heap→Prop} (h1:HeapOK P B σ h w) (h2:noOwn h) (h3:K σ h):Opened P B σ h w K :=
  ⟨[],[],by simpa using h1,by simpa using h2,by simpa using h3⟩
theorem take_add {α:Type} (l:List α) (a b:Nat):l.take (a+b)=l.take a++(l.drop a).take b:=by
  rw [List.take_add]
section
variable {H:Type} {enc:TypeId × Value→H} {P:Program} {w:World} {held:Bool} {B:Nat}
def Opens (enc:TypeId × Value→H) (P:Program) (w:World) (held:Bool) (B:Nat) (t:TypeId) (ks:List QK):Prop :=
  ∀ (fuel:Nat) (cs:List Value) (x:DataW H × List MemPlace),DataW.trod enc P w 0 (fun _=>true) held fuel t cs=some x →
    ∀ (σ:Sg) (h:Heap),HeapOK P B σ h w→noOwn h→Opened P B σ h w fun σ' h'=>∃ avs,RelL σ' avs cs∧lookL h' ks avs
theorem opens_fields {g:TypeId→Option (List QK)} (hg:∀ t ks,g t=some ks→Opens enc P w held B t ks) (cs:List Value) :
    ∀ (fl:List Field) (off:Nat) (ks:List QK),flds P g fl off=some ks→off+ks.length≤cs.length →
      (∀ f∈fl,∃ n x,DataW.trod enc P w 0 (fun _=>true) held n f.type ((cs.drop f.offset).take (P.cellsOf f.type))=some x) →
      ∀ (σ:Sg) (h:Heap),HeapOK P B σ h w→noOwn h→Opened P B σ h w fun σ' h'=>∃ avs,RelL σ' avs ((cs.drop off).take ks.length)∧lookL h' ks avs
  | [],off,ks,hf,_,_,σ,h,hk,hn=>by
    simp only [flds,Option.some.injEq] at hf;subst hf
    exact Opened.pure hk hn ⟨[],by simp [RelL],by simp [lookL]⟩
  | f :: fl,off,ks,hf,hle,hx,σ,h,hk,hn=>by
    simp only [flds] at hf
    split at hf
    · rename_i a b ha hb
      split at hf
      · rename_i hc
        simp only [Option.some.injEq] at hf;subst hf
        obtain⟨hoff,hlen⟩:=hc
        obtain⟨n,x,h1⟩:=hx f (by simp)
        refine (hg _ _ ha n _ x h1 σ h hk hn).bind fun τ g1 hk1 hn1 ⟨avs,r1,l1⟩=>?_
        rw [List.length_append] at hle
        refine (opens_fields hg cs fl _ b hb (by omega) (fun f' hf'=>hx f' (by simp [hf'])) _ _ hk1 hn1).bind fun τ2 g2 hk2 hn2 ⟨avs2,r2,l2⟩=>?_
        refine Opened.pure hk2 hn2 ⟨avs++avs2,?_,(lookL.mono _ _ l1).append l2⟩
        rw [List.length_append,take_add,List.drop_drop]
        rw [hoff,← hlen] at r1
        rw [← hlen] at r2
        exact (RelL.mono (Ext.app _ _) _ _ r1).append r2
      · cases hf
    · cases hf
theorem opens_rows {e:TypeId} {ks:List QK} (ho:Opens enc P w held B e ks) (hks:ks.length=P.cellsOf e) (a:Addr) (m:Nat)
    (hx:∀ i,i<m→∃ n cs' x,w.cells? 0 (a.add (i * P.cellsOf e)) (P.cellsOf e)=some cs'∧DataW.trod enc P w 0 (fun _=>true) held n e cs'=some x) :
    ∀ (j:Nat),j≤m→∀ (σ:Sg) (h:Heap),HeapOK P B σ h w→noOwn h→Opened P B σ h w fun σ' h'=>∃ (rows:List (List AV)) (cc:List Value),rows.length=j∧cc.length=j * ks.length ∧
      RelL σ' rows.flatten cc∧(∀ (i:Nat) (c:Value),cc[i]?=some c→w.cell? (a.add i)=some c)∧∀ r∈rows,lookL h' ks r
  | 0,_,σ,h,hk,hn=>Opened.pure hk hn ⟨[],[],rfl,by simp,rfl,by simp,by simp⟩
  | j+1,hj,σ,h,hk,hn=>by
    refine (opens_rows ho hks a m hx j (by omega) σ h hk hn).bind fun τ g hk1 hn1 ⟨rows,cc,h1,h2,h3,h4,h5⟩=>?_
    obtain⟨n,cs',x,hc,ht⟩:=hx j (by omega)
    obtain⟨_,hlen,hcell⟩:=World.cells?_some hc
    refine (ho n cs' x ht _ _ hk1 hn1).bind fun τ2 g2 hk2 hn2 ⟨avs,r2,l2⟩=>?_
    refine Opened.pure hk2 hn2 ⟨rows++[avs],cc++cs',by simp [h1],?_,?_,?_,?_⟩
    · rw [List.length_append,h2,hlen,hks,Nat.add_mul,Nat.one_mul]
    · rw [List.flatten_append]
      simp only [List.flatten_cons,List.flatten_nil,List.append_nil]
      exact (RelL.mono (Ext.app _ _) _ _ h3).append r2
    · intro i c hi
      rcases Nat.lt_or_ge i cc.length with hlt|hge
      · rw [List.getElem?_append_left hlt] at hi;exact h4 i c hi
      · rw [List.getElem?_append_right hge] at hi
        have hlt:=(List.getElem?_eq_some_iff.1 hi).1
        have:=hcell (i-cc.length) (by omega)
        rw [hi] at this
        rw [← this,h2,hks]
        congr 1
        have hge':j * P.cellsOf e≤i:=by rw [h2,hks] at hge;exact hge
        unfold Addr.add
        by_cases z1:j * P.cellsOf e=0
        · simp [z1]
        · by_cases z2:i-j * P.cellsOf e=0
          · have:i=j * P.cellsOf e:=by omega
            simp [z2,this]
          · rw [if_neg z1,if_neg z2,if_neg (by omega)]
            simp only [Addr.mk.injEq,true_and,and_true];omega
    · intro r hr
      rcases List.mem_append.1 hr with hr|hr
      · exact lookL.mono _ _ (h5 r hr)
      · simp only [List.mem_singleton] at hr;subst hr;exact l2
theorem opens:∀ (n:Nat) (t:TypeId) (ks:List QK),shp P n t=some ks→Opens enc P w held B t ks
  | 0,_,_,h=>by cases h
  | n+1,t,ks,hs=>by
    intro fuel cs x ht σ h hk hn
    simp only [shp] at hs
    split at hs
    · rename_i k hu
      simp only [Option.some.injEq] at hs;subst hs
      obtain⟨v,rfl,_,hw⟩:=DataW.trod_int hu ht
      simp only [Lit.wf,Bool.and_eq_true,decide_eq_true_eq] at hw
      exact Opened.pure hk hn ⟨[.int k v],⟨_,[],rfl,by exact rfl,by exact rfl⟩,⟨_,[],rfl,by simp only [QK.look];exact⟨v,rfl,hw⟩,by simp only [lookL]⟩⟩
    · rename_i hu
      simp only [Option.some.injEq] at hs;subst hs
      obtain⟨b,rfl,_⟩:=DataW.trod_bool hu ht
      exact Opened.pure hk hn ⟨[.bool b],⟨_,[],rfl,by exact rfl,by exact rfl⟩,⟨_,[],rfl,by simp only [QK.look];exact⟨b,rfl⟩,by simp only [lookL]⟩⟩
    · rename_i hu
      simp only [Option.some.injEq] at hs;subst hs
      obtain⟨s,rfl,_,hz⟩:=DataW.trod_string hu ht
      exact Opened.pure hk hn ⟨[.str s],⟨_,[],rfl,by exact rfl,by exact rfl⟩,⟨_,[],rfl,by simp only [QK.look];exact⟨s,rfl,hz⟩,by simp only [lookL]⟩⟩
    · rename_i fs hu
      split at hs
      · rename_i ks' hf
        split at hs
        · rename_i hlen
          simp only [Option.some.injEq] at hs;subst hs
          obtain⟨xs,m,_,_,hl,_,hx⟩:=DataW.trod_struct hu ht
          have:=opens_fields (enc:=enc) (w:=w) (held:=held) (B:=B) (fun t ks h=>opens n t ks h) cs fs.toList 0 ks' hf (by omega) (fun f hf'=>by
            obtain⟨i,hi⟩:=List.getElem?_of_mem hf'
            have h1:=hx i f (by simpa using hi)
            obtain⟨y,hy⟩:∃ y,xs[i]?=some y:=by
              refine⟨xs[i]'?_,List.getElem?_eq_getElem ?_⟩ <;>
              · have:=(List.getElem?_eq_some_iff.1 hi).1
                simp at this;omega
            exact⟨m,y,by rw [h1,hy]⟩) σ h hk hn
          rw [List.drop_zero,List.take_of_length_le (by omega)] at this
          exact this
        · cases hs
      · cases hs
    · rename_i e hu
      split at hs
      · rename_i ks' he
        split at hs
        · rename_i hc
          simp only [Option.some.injEq] at hs;subst hs
          obtain⟨hlen,hpos⟩:=hc
          have noroom:∀ (σ:Sg) (h:Heap) (ad:Option Addr),HeapOK P B σ h w→noOwn h→Opened P B σ h w fun σ' h'=>∃ avs,RelL σ' avs [.slice ad 0 0]∧lookL h' [.sl ks'] avs:=by
            intro σ h ad hk hn
            refine⟨[none],[.cells [] false],hk.virtual false,hn.app [],[.slice h.length 0 0 ks'.length false],⟨_,[],rfl,?_,by exact rfl⟩,⟨_,[],rfl,?_,by simp only [lookL]⟩⟩
            · exact .inl ⟨by simp [hk.len],rfl,_,rfl⟩
            · simp only [QK.look]
              exact⟨h.length,[],rfl,by simp,by simp,by simp⟩
          rcases Go.Deep.open_slice hu ht with⟨rfl,_⟩|⟨a,len,cap,m,n',D,Pl,rfl,_,hlc,hcm,hm,_,hx⟩
          · exact noroom σ h none hk hn
          · simp only [if_true] at hm
            subst hm
            rcases Nat.eq_zero_or_pos m with h0|h0
            · subst h0
              obtain rfl:len=0:=by omega
              exact noroom σ h (some a) hk hn
            · refine (opens_rows (opens n e ks' he) hlen a m (fun i hi=>by obtain⟨cs',h1,h2⟩:=hx i hi;exact⟨_,_,_,h1,h2⟩) len (by omega) σ h hk hn).bind fun τ g hk1 hn1 ⟨rows,cc,h1,h2,h3,h4,h5⟩=>?_
              obtain⟨cs',hc',_⟩:=hx 0 h0
              obtain⟨_,hl',hcell⟩:=World.cells?_some hc'
              have h6:=hcell 0 (by omega)
              simp only [Nat.zero_mul,Addr.add,if_true] at h6
              rw [List.getElem?_eq_getElem (by omega)] at h6
              have hsp:a.spot=none∧a.block<w.heap.size:=by
                unfold World.cell? at h6
                split at h6
                · rename_i hb
                  split at h6
                  · cases h6
                  · rename_i hs
                    refine⟨by simpa using hs,?_⟩
                    have:=(Array.getElem?_eq_some_iff.1 hb).1
                    exact this
                · cases h6
              have hadd:∀ j,a.add j=⟨a.block,a.off+j,none⟩:=by
                intro j
                unfold Addr.add
                split
                · rename_i hj;subst hj
                  obtain⟨b,o,s⟩:=a
                  simp only at hsp
                  simp [hsp.1]
                · rfl
              refine⟨[some ⟨a.block,a.off,a.off+m * ks'.length⟩],[.cells rows.flatten false],hk1.given hn1 ⟨a.block,a.off,a.off+m * ks'.length⟩ hsp.2 ?_,hn1.app _,[.slice (h++g).length 0 rows.length ks'.length false],⟨_,[],rfl,?_,by exact rfl⟩,⟨_,[],rfl,?_,by simp only [lookL]⟩⟩
              · intro j v hj
                obtain⟨c,hc1,hc2⟩:=h3.get hj
                exact⟨c,by rw [← hadd];exact h4 j c hc1,hc2⟩
              · refine .inr ⟨⟨a.block,a.off,a.off+m * ks'.length⟩,a.off,m,by rw [← hk1.len];simp,?_,by omega,(fun hh=>by cases hh),.inr ⟨by simp,by simp⟩⟩
                rw [h1]
                obtain⟨b,o,s⟩:=a
                simp only at hsp
                rw [hsp.1]
              · simp only [QK.look]
                exact⟨_,rows,rfl,by omega,by simp,fun r hr=>lookL.mono _ _ (h5 r hr)⟩
        · cases hs
      · cases hs
    · cases hs
end
end Go.Abs
