/- The abstract machine, run for the kernel: code. -/
import Derived.Test.YtdocpfbfchaekaaGreatA28
noncomputable section
namespace Go.Abs
open Go.RowKit
abbrev Tm:=List (Nat × AV)
section
def scR (m:Nat) (v:AV):Bool :=
  AV.rec (motive_1:=fun _=>Bool) (motive_2:=fun _=>Bool) (fun _=>true) (fun _ _=>true) (fun _=>true) (fun i _=>Nat.ble (Nat.succ i) m) true (fun i _ _ _ _=>Nat.ble (Nat.succ i) m) true (fun i=>Nat.ble (Nat.succ i) m) true
    (fun _ _ _ ia ib=>yes ia ib false) true (fun i=>Nat.ble (Nat.succ i) m) (fun _ _ ih=>ih) true (fun _ ih=>ih) (fun _ ih=>ih) true true (fun _ _ iv il=>yes iv il false) v
mutual
theorem scR_eq (m:Nat):∀ v:AV,scR m v=v.sc m
  | .bool _|.int _ _|.str _|.nil|.nilslice|.nilmap|.nilfn|.niliface|.junk=>rfl
  | .ptr i _=>ble_dec _ _
  | .slice i _ _ _ _=>ble_dec _ _
  | .map i=>ble_dec _ _
  | .yield i=>ble_dec _ _
  | .fn f a b=>(congr (congrArg (fun x y=>yes x y false) (scRL_eq m a)) (scRL_eq m b)).trans (by rw [AV.sc,yes_eq];cases scL m a <;> simp)
  | .iface t v=>scR_eq m v
  | .agg cs=>scRL_eq m cs
  | .tuple cs=>scRL_eq m cs
theorem scRL_eq (m:Nat):∀ l:List AV,(AV.rec_1 (motive_1:=fun _=>Bool) (motive_2:=fun _=>Bool) (fun _=>true) (fun _ _=>true) (fun _=>true) (fun i _=>Nat.ble (Nat.succ i) m) true (fun i _ _ _ _=>Nat.ble (Nat.succ i) m) true (fun i=>Nat.ble (Nat.succ i) m) true
    (fun _ _ _ ia ib=>yes ia ib false) true (fun i=>Nat.ble (Nat.succ i) m) (fun _ _ ih=>ih) true (fun _ ih=>ih) (fun _ ih=>ih) true true (fun _ _ iv il=>yes iv il false) l:Bool)=scL m l
  | []=>rfl
  | v :: l=>(congr (congrArg (fun x y=>yes x y false) (scR_eq m v)) (scRL_eq m l)).trans (by rw [scL,yes_eq];cases v.sc m <;> simp)
end
def beqT (v w:AV):Bool:=match v,w with
  | .int q a,.int q' b=>yes (keq q q') (ieq a b) false
  | .ptr i o,.ptr j p=>yes (Nat.beq i j) (Nat.beq o p) false
  | v,w=>v.beq w
theorem beqT_eq {v w:AV} (h:beqT v w=true):v.beq w=true:=by
  unfold beqT at h
  split at h
  · simp only [yes_eq,keq_eq,ieq_eq] at h
    split at h
    · rename_i h1;simp_all [AV.beq]
    · cases h
  · simp only [yes_eq] at h
    split at h
    · rename_i h1;simp_all [AV.beq]
    · cases h
  · exact h
def readsT (o:AOp) (t:Tm) (tr:Tr) (s:Nat) (v:AV):Bool:=match fxT o t tr s (fun v' _ _=>yes (beqT v' v) (some (.junk,.nil,0)) none) with
  | some _=>true
  | none=>false
theorem readsT_ok {o:AOp} {t:Tm} {tr:Tr} {s:Nat} {v:AV} (h:readsT o t tr s v=true):reads o t (ab tr s) v=true:=by
  unfold readsT at h
  split at h
  · rename_i u hu
    obtain⟨v',tr',s',h1,h2⟩:=fxT_some hu
    unfold reads
    rw [h2]
    simp only [yes_eq] at h1
    split at h1
    · rename_i hb;exact beqT_eq hb
    · cases h1
  · cases h
def prR (ps:List (List Nat)) (i:Nat):List Nat:=match getR ps i with
  | some l=>l
  | none=>[]
theorem prR_eq (ps:List (List Nat)) (i:Nat):prR ps i=pr ps i:=by
  simp only [prR,pr,getR_eq,List.getD]
  cases ps[i]? <;> rfl
def filterR {γ:Type} (p:γ→Bool) (l:List γ):List γ:=List.rec (motive:=fun _=>List γ) [] (fun a _ ih=>Bool.casesOn (motive:=fun _=>List γ) (p a) ih (a :: ih)) l
theorem filterR_eq {γ:Type} (p:γ→Bool):∀ l:List γ,filterR p l=l.filter p
  | []=>rfl
  | a :: l=>by
    show (Bool.casesOn (motive:=fun _=>List γ) (p a) (filterR p l) (a :: filterR p l))=_
    rw [filterR_eq p l,List.filter_cons]
    cases p a <;> rfl
abbrev Past:=List (Nat × Tr × Nat)
def abP (p:Past):List (Nat × Heap):=p.map fun x=>(x.1,ab x.2.1 x.2.2)
def pastT (ps:List (List Nat)) (i:Nat) (o:AOp) (t:Tm) (v:AV) (past:Past):Bool:=allR (fun p=>yes (memR p.1 (prR ps i)) true (readsT o t p.2.1 p.2.2 v)) past
theorem pastT_ok {ps:List (List Nat)} {i:Nat} {o:AOp} {t:Tm} {v:AV} {past:Past} (h:pastT ps i o t v past=true):pastOK ps i o t v (abP past)=true:=by
  simp only [pastT,allR_eq,yes_eq,memR_eq,prR_eq,List.all_eq_true] at h
  simp only [pastOK,abP,List.all_eq_true,List.mem_map]
  rintro x ⟨p,hp,rfl⟩
  have:=h p hp
  split at this
  · rename_i hc;simp only [hc,Bool.true_or]
  · simp only [readsT_ok this,Bool.or_true]
def recT (ps:List (List Nat)) (i:Nat) (tr:Tr) (s:Nat) (rds:List Rd):Bool:=allR (fun r=>yes (memR r.at_ (prR ps i)) true (readsT r.op r.t tr s r.v)) rds
theorem recT_ok {ps:List (List Nat)} {i:Nat} {tr:Tr} {s:Nat} {rds:List Rd} (h:recT ps i tr s rds=true):readsOK ps i (ab tr s) rds=true:=by
  simp only [recT,allR_eq,yes_eq,memR_eq,prR_eq,List.all_eq_true] at h
  simp only [readsOK,List.all_eq_true]
  intro p hp
  have:=h p hp
  split at this
  · rename_i hc;simp only [hc,Bool.true_or]
  · simp only [readsT_ok this,Bool.or_true]
def leftR (ps:List (List Nat)) (i:Nat) (rds:List Rd):List Rd:=filterR (fun r=>!memR r.at_ (prR ps i)) rds
theorem leftR_eq (ps:List (List Nat)) (i:Nat) (rds:List Rd):leftR ps i rds=rds.filter fun r=>!(pr ps i).contains r.at_:=by
  simp only [leftR,filterR_eq,memR_eq,prR_eq]
def scopT (o:AOp) (t:Tm) (s:Nat):Bool:=allR (fun k=>scR s (lkR t k)) o.slots
theorem scopT_eq (o:AOp) (t:Tm) (s:Nat):scopT o t s=scopedB o t s:=by
  simp only [scopT,scopedB,allR_eq,lkR_eq,scR_eq]
abbrev CallT:=FuncId→List AV→Tr→Nat→Option (AV × Tr × Nat)
abbrev YlT:=Nat→List AV→Tr→Nat→Option (AV × Tr × Nat)
def CallS (c':CallT) (c:FuncId→List AV→Heap→Option (AV × Heap)):Prop:=∀ f args tr s v tr' s',c' f args tr s=some (v,tr',s')→c f args (ab tr s)=some (v,ab tr' s')
def YlS (c':YlT) (c:Nat→List AV→Heap→Option (AV × Heap)):Prop:=∀ f args tr s v tr' s',c' f args tr s=some (v,tr',s')→c f args (ab tr s)=some (v,ab tr' s')
def outT (r:Option (AV × Tr × Nat)) (K:Kt):Option RT:=match r with
  | some (v,tr,s)=>K v tr s
  | none=>none
def wantsR (o:AO) (t:Tm) (k:Bool→Option RT):Option RT:=match o.guard with
  | none=>k true
  | some p=>match lkR t p.1 with
    | .bool b=>Bool.casesOn (motive:=fun _=>Option RT) b (Bool.casesOn (motive:=fun _=>Option RT) p.2 (k true) (k false)) (Bool.casesOn (motive:=fun _=>Option RT) p.2 (k false) (k true))
    | .tuple []=>k false
    | _=>none
theorem wantsR_eq (o:AO) (t:Tm) (k:Bool→Option RT):wantsR o t k=opt (wants o t) k:=by
  unfold wantsR wants
  cases o.guard with
  | none=>rfl
  | some p =>
    obtain⟨g,want⟩:=p
    simp only [lkR_eq]
    cases lk t g with
    | bool b=>cases b <;> cases want <;> rfl
    | tuple vs=>cases vs <;> rfl
    | _=>rfl
def oneT (call:CallT) (yl:YlT) (o:AOp) (t:Tm) (tr:Tr) (s:Nat) (K:Kt):Option RT:=match o with
  | .callF f args=>evsR t args fun as=>outT (call f as tr s) K
  | .callV f args=>match evR t f with
    | .fn (.func g) first caps=>evsR t args fun as=>appR as caps fun bs=>appR first bs fun cs=>outT (call g cs tr s) K
    | .yield id=>evsR t args fun as=>outT (yl id as tr s) K
    | _=>none
  | o=>fxT o t tr s K
section
variable {call':CallT} {yl':YlT} {call:FuncId→List AV→Heap→Option (AV × Heap)} {yl:Nat→List AV→Heap→Option (AV × Heap)}
theorem outT_some {r:Option (AV × Tr × Nat)} {K:Kt} {x:RT} (h:outT r K=some x):∃ v tr s,r=some (v,tr,s)∧K v tr s=some x:=by
  unfold outT at h
  split at h
  · exact⟨_,_,_,rfl,h⟩
  · cases h
theorem oneT_some (hc:CallS call' call) (hy:YlS yl' yl) {o:AOp} {t:Tm} {tr:Tr} {s:Nat} {K:Kt} {r:RT} (h:oneT call' yl' o t tr s K=some r) :
    ∃ v tr' s',K v tr' s'=some r∧runOne call yl o ⟨t,ab tr s⟩=some (v,ab tr' s'):=by
  cases o
  case callF f args =>
    simp only [oneT,evsR_eq] at h
    obtain⟨v,tr',s',h1,h2⟩:=outT_some h
    exact⟨v,tr',s',h2,hc _ _ _ _ _ _ _ h1⟩
  case callV f args =>
    simp only [oneT,evR_eq,evsR_eq,appR_eq] at h
    simp only [runOne]
    split at h
    · rename_i hf
      obtain⟨v,tr',s',h1,h2⟩:=outT_some h
      refine⟨v,tr',s',h2,?_⟩
      rw [hf]
      simp only [List.append_assoc]
      exact hc _ _ _ _ _ _ _ h1
    · rename_i hf
      obtain⟨v,tr',s',h1,h2⟩:=outT_some h
      refine⟨v,tr',s',h2,?_⟩
      rw [hf]
      exact hy _ _ _ _ _ _ _ h1
    · cases h
  all_goals (rw [runOne_fx rfl];exact fxT_some h)
def putR (dst:Option Nat) (v:AV) (t:Tm) (K:Tm→Option RT):Option RT:=match dst with
  | some d=>K ((d,v) :: t)
  | none=>K t
theorem putR_eq (dst:Option Nat) (v:AV) (t:Tm) (K:Tm→Option RT):putR dst v t K=K (match dst with|some d=>(d,v) :: t|none=>t):=by cases dst <;> rfl
theorem put_mk (t:Tm) (h h':Heap) (dst:Option Nat) (v:AV):(St.put ⟨t,h⟩ dst v h')=⟨match dst with|some d=>(d,v) :: t|none=>t,h'⟩:=by cases dst <;> rfl
variable (call' yl') in
def opsT (l:List AO):Tm→Tr→Nat→(Tm→Tr→Nat→Option RT)→Option RT :=
  List.rec (motive:=fun _=>Tm→Tr→Nat→(Tm→Tr→Nat→Option RT)→Option RT) (fun t tr s K=>K t tr s)
    (fun o _ ih t tr s K=>wantsR o t fun b=>Bool.casesOn (motive:=fun _=>Option RT) b (putR o.dst (.tuple []) t fun t=>ih t tr s K) (oneT call' yl' o.op t tr s fun v tr' s'=>putR o.dst v t fun t=>ih t tr' s' K)) l
theorem opsT_some (hc:CallS call' call) (hy:YlS yl' yl) {r:RT}:∀ (l:List AO) (t:Tm) (tr:Tr) (s:Nat) (K:Tm→Tr→Nat→Option RT),opsT call' yl' l t tr s K=some r →
    ∃ t' tr' s',K t' tr' s'=some r∧runOps call yl l ⟨t,ab tr s⟩=some ⟨t',ab tr' s'⟩
  | [],t,tr,s,K,h=>⟨t,tr,s,h,rfl⟩
  | o :: os,t,tr,s,K,h=>by
    have h':(wantsR o t fun b=>Bool.casesOn (motive:=fun _=>Option RT) b (putR o.dst (.tuple []) t fun t=>opsT call' yl' os t tr s K) (oneT call' yl' o.op t tr s fun v tr' s'=>putR o.dst v t fun t=>opsT call' yl' os t tr' s' K))=some r:=h
    rw [wantsR_eq] at h'
    obtain⟨b,hb,h'⟩:=opt_some h'
    rw [runOps]
    simp only [hb]
    cases b with
    | false =>
      simp only [putR_eq] at h'
      obtain⟨t',tr',s',h1,h2⟩:=opsT_some hc hy os _ _ _ _ h'
      exact⟨t',tr',s',h1,by simp only [put_mk];exact h2⟩
    | true =>
      obtain⟨v,tr1,s1,h1,h2⟩:=oneT_some hc hy h'
      rw [putR_eq] at h1
      obtain⟨t',tr',s',h3,h4⟩:=opsT_some hc hy os _ _ _ _ h1
      exact⟨t',tr',s',h3,by simp only [h2,put_mk];exact h4⟩
variable (call' yl') in
def drawT (ps:List (List Nat)) (l:List AO):Nat→Past→List Rd→Tm→Tr→Nat→(Tm→Tr→Nat→Option RT)→Option RT :=
  List.rec (motive:=fun _=>Nat→Past→List Rd→Tm→Tr→Nat→(Tm→Tr→Nat→Option RT)→Option RT) (fun _ _ _ t tr s K=>K t tr s)
    (fun o _ ih i past rds t tr s K=>wantsR o t fun b=>Bool.casesOn (motive:=fun _=>Option RT) b (putR o.dst (.tuple []) t fun t=>ih (Nat.succ i) past rds t tr s K)
      (match o.op.cls with
      | 0=>fxT o.op t tr s fun v _ _=>putR o.dst v t fun t=>ih (Nat.succ i) past rds t tr s K
      | 1=>fxT o.op t tr s fun v _ _=>yes (pastT ps i o.op t v past) (putR o.dst v t fun t'=>ih (Nat.succ i) past (⟨i,o.op,t,v⟩ :: rds) t' tr s K) none
      | 2=>fxT o.op t tr s fun v tr' s'=>yes (scopT o.op t s) (yes (recT ps i tr' s' rds) (putR o.dst v t fun t'=>ih (Nat.succ i) ((i,tr,s) :: past) (leftR ps i rds) t' tr' s' K) none) none
      | _=>oneT call' yl' o.op t tr s fun v tr' s'=>yes (scopT o.op t s) (yes (Nat.ble s s') (yes (recT ps i tr' s' rds) (putR o.dst v t fun t'=>ih (Nat.succ i) ((i,tr,s) :: past) (leftR ps i rds) t' tr' s' K) none) none) none)) l
theorem yes_some {b:Bool} {x:Option RT} {r:RT} (h:yes b x none=some r):b=true∧x=some r:=by
  cases b
  · cases h
  · exact⟨rfl,h⟩
theorem drawT_some (hc:CallS call' call) (hy:YlS yl' yl) (ps:List (List Nat)) {r:RT}:∀ (l:List AO) (i:Nat) (past:Past) (rds:List Rd) (t:Tm) (tr:Tr) (s:Nat) (K:Tm→Tr→Nat→Option RT),drawT call' yl' ps l i past rds t tr s K=some r →
    ∃ t' tr' s',K t' tr' s'=some r∧runDraw call yl ps l i (abP past) rds ⟨t,ab tr s⟩=some ⟨t',ab tr' s'⟩
  | [],i,past,rds,t,tr,s,K,h=>⟨t,tr,s,h,rfl⟩
  | o :: os,i,past,rds,t,tr,s,K,h=>by
    have h':(wantsR o t fun b=>Bool.casesOn (motive:=fun _=>Option RT) b (putR o.dst (.tuple []) t fun t=>drawT call' yl' ps os (Nat.succ i) past rds t tr s K)
      (match o.op.cls with
      | 0=>fxT o.op t tr s fun v _ _=>putR o.dst v t fun t=>drawT call' yl' ps os (Nat.succ i) past rds t tr s K
      | 1=>fxT o.op t tr s fun v _ _=>yes (pastT ps i o.op t v past) (putR o.dst v t fun t'=>drawT call' yl' ps os (Nat.succ i) past (⟨i,o.op,t,v⟩ :: rds) t' tr s K) none
      | 2=>fxT o.op t tr s fun v tr' s'=>yes (scopT o.op t s) (yes (recT ps i tr' s' rds) (putR o.dst v t fun t'=>drawT call' yl' ps os (Nat.succ i) ((i,tr,s) :: past) (leftR ps i rds) t' tr' s' K) none) none
      | _=>oneT call' yl' o.op t tr s fun v tr' s'=>yes (scopT o.op t s) (yes (Nat.ble s s') (yes (recT ps i tr' s' rds) (putR o.dst v t fun t'=>drawT call' yl' ps os (Nat.succ i) ((i,tr,s) :: past) (leftR ps i rds) t' tr' s' K) none) none) none))=some r:=h
    rw [wantsR_eq] at h'
    obtain⟨b,hb,h'⟩:=opt_some h'
    rw [runDraw]
    simp only [hb]
    cases b with
    | false =>
      simp only [putR_eq] at h'
      obtain⟨t',tr',s',h1,h2⟩:=drawT_some hc hy ps os _ _ _ _ _ _ _ h'
      exact⟨t',tr',s',h1,by simp only [put_mk];exact h2⟩
    | true =>
      simp only at h'
      revert h'
      rcases o.op.cls with _|_|_|n <;> intro h' <;> simp only at h' ⊢
      · obtain⟨v,tr1,s1,h1,h2⟩:=fxT_some h'
        simp only [putR_eq] at h1
        obtain⟨t',tr',s',h3,h4⟩:=drawT_some hc hy ps os _ _ _ _ _ _ _ h1
        exact⟨t',tr',s',h3,by simp only [h2,put_mk];exact h4⟩
      · obtain⟨v,tr1,s1,h1,h2⟩:=fxT_some h'
        obtain⟨g1,h1⟩:=yes_some h1
        simp only [putR_eq] at h1
        obtain⟨t',tr',s',h3,h4⟩:=drawT_some hc hy ps os _ _ _ _ _ _ _ h1
        exact⟨t',tr',s',h3,by simp only [h2,put_mk,pastT_ok g1,if_true];exact h4⟩
      · obtain⟨v,tr1,s1,h1,h2⟩:=fxT_some h'
        obtain⟨g1,h1⟩:=yes_some h1
        obtain⟨g2,h1⟩:=yes_some h1
        simp only [putR_eq,leftR_eq] at h1
        rw [scopT_eq] at g1
        obtain⟨t',tr',s',h3,h4⟩:=drawT_some hc hy ps os _ _ _ _ _ _ _ h1
        exact⟨t',tr',s',h3,by simp only [h2,put_mk,ab_len,g1,recT_ok g2,and_self,if_true];exact h4⟩
      · obtain⟨v,tr1,s1,h1,h2⟩:=oneT_some hc hy h'
        obtain⟨g1,h1⟩:=yes_some h1
        obtain⟨g3,h1⟩:=yes_some h1
        obtain⟨g2,h1⟩:=yes_some h1
        simp only [putR_eq,leftR_eq] at h1
        rw [scopT_eq] at g1
        have g3':s≤s1:=by simpa using g3
        obtain⟨t',tr',s',h3,h4⟩:=drawT_some hc hy ps os _ _ _ _ _ _ _ h1
        exact⟨t',tr',s',h3,by simp only [h2,put_mk,ab_len,g1,g3',recT_ok g2,and_self,if_true];exact h4⟩
abbrev Kx:=Exit→Tm→Tr→Nat→Option RT
def exR (e:Exit) (n:Option RT) (o:Exit→Option RT):Option RT:=match e with
  | .normal=>n
  | e=>o e
def loopT (body:Tm→Tr→Nat→Kx→Option RT) (n:Nat):Tm→Tr→Nat→Kx→Option RT :=
  Nat.rec (motive:=fun _=>Tm→Tr→Nat→Kx→Option RT) (fun _ _ _ _=>none) (fun _ ih t tr s K=>body t tr s fun e t tr s=>exR e (ih t tr s K) fun e=>K e t tr s) n
def CodeS (f:Tm→Tr→Nat→Kx→Option RT) (b:St→Option (Exit × St)):Prop:=∀ (t:Tm) (tr:Tr) (s:Nat) (K:Kx) (r:RT),f t tr s K=some r→∃ e t' tr' s',K e t' tr' s'=some r∧b ⟨t,ab tr s⟩=some (e,⟨t',ab tr' s'⟩)
theorem loopT_some {body:Tm→Tr→Nat→Kx→Option RT} {b:St→Option (Exit × St)} (hb:CodeS body b):∀ (n:Nat),CodeS (loopT body n) (runLoop b n)
  | 0,t,tr,s,K,r,h=>by cases h
  | n+1,t,tr,s,K,r,h=>by
    have h':(body t tr s fun e t tr s=>exR e (loopT body n t tr s K) fun e=>K e t tr s)=some r:=h
    obtain⟨e,t1,tr1,s1,h1,h2⟩:=hb _ _ _ _ _ h'
    rw [runLoop,h2]
    cases e with
    | normal=>exact loopT_some hb n _ _ _ _ _ h1
    | _=>exact⟨_,_,_,_,h1,rfl⟩
def endR (ob:Option AObj) (k:Exit→Option RT):Option RT:=match ob with
  | some (.other (.loop _ _ _ _ .ready))=>k .normal
  | some (.other (.loop _ _ _ _ (.done j)))=>k j.ex
  | _=>none
variable (call' yl') in
def codeT (n:Nat) (c:AC):Tm→Tr→Nat→Kx→Option RT :=
  AC.rec (motive:=fun _=>Tm→Tr→Nat→Kx→Option RT)
    (fun t tr s K=>K .normal t tr s)
    (fun l live t tr s K=>opsT call' yl' l t tr s fun t tr s=>match live with|none=>K .normal t tr s|some ks=>pruneR t ks fun t=>K .normal t tr s)
    (fun l ps live t tr s K=>drawT call' yl' ps l 0 [] [] t tr s fun t tr s=>match live with|none=>K .normal t tr s|some ks=>pruneR t ks fun t=>K .normal t tr s)
    (fun _ _ ia ib t tr s K=>ia t tr s fun e t tr s=>exR e (ib t tr s K) fun e=>K e t tr s)
    (fun c _ _ ia ib t tr s K=>match evR t c with
      | .bool b=>Bool.casesOn (motive:=fun _=>Option RT) b (ib t tr s K) (ia t tr s K)
      | _=>none)
    (fun id _ ia t tr s K=>ia t tr s fun e t tr s=>match e with
      | .exit id'=>yes (Nat.beq id' id) (K .normal t tr s) (K (.exit id') t tr s)
      | e=>K e t tr s)
    (fun _ ia t tr s K=>loopT ia n t tr s K)
    (fun _ ia t tr s K=>ia t tr s fun e t tr s=>match e with
      | .goto _=>none
      | e=>K e t tr s)
    (fun id t tr s K=>K (.exit id) t tr s)
    (fun t tr s K=>K .ret t tr s)
    (fun f ps a b _ _ t tr s K=>match evR t f with
      | .fn (.func g) first caps=>yes (allR (fun x=>scR s x.2) t) (appR first (.yield s :: caps) fun args=>setT tr s (.other (.loop t ps a b .ready)) fun tr1=>fN (Nat.succ s) fun s1=>outT (call' g args tr1 s1) fun _ tr' s' =>
          endR (obT tr' s' s) fun e=>setT tr' s .dead fun tr'=>K e t tr' s') none
      | _=>none)
    (fun _ _ _ _=>none) c
theorem codeT_some (hc:CallS call' call) (hy:YlS yl' yl) (n:Nat):∀ (c:AC),CodeS   (codeT call' yl' n c) (runC call yl n c):=by
  intro c
  induction c with
  | skip=>intro t tr s K r h;exact⟨_,_,_,_,h,rfl⟩
  | ops l live =>
    intro t tr s K r h
    obtain⟨t1,tr1,s1,h1,h2⟩:=opsT_some hc hy l t tr s _ (show opsT call' yl' l t tr s (fun t tr s=>match (generalizing:=false) live with|none=>K .normal t tr s|some ks=>pruneR t ks fun t=>K .normal t tr s)=some r from h)
    rw [runC,h2]
    cases live with
    | none=>exact⟨_,_,_,_,h1,rfl⟩
    | some ks =>
      simp only [pruneR_eq] at h1
      exact⟨_,_,_,_,h1,rfl⟩
  | draw l ps live =>
    intro t tr s K r h
    obtain⟨t1,tr1,s1,h1,h2⟩:=drawT_some hc hy ps l 0 [] [] t tr s _ (show drawT call' yl' ps l 0 [] [] t tr s (fun t tr s=>match (generalizing:=false) live with|none=>K .normal t tr s|some ks=>pruneR t ks fun t=>K .normal t tr s)=some r from h)
    have h2:runDraw call yl ps l 0 [] [] ⟨t,ab tr s⟩=some ⟨t1,ab tr1 s1⟩:=h2
    rw [runC,h2]
    cases live with
    | none=>exact⟨_,_,_,_,h1,rfl⟩
    | some ks =>
      simp only [pruneR_eq] at h1
      exact⟨_,_,_,_,h1,rfl⟩
  | seq a b iha ihb =>
    intro t tr s K r h
    obtain⟨e,t1,tr1,s1,h1,h2⟩:=iha t tr s _ r (show codeT call' yl' n a t tr s (fun e t tr s=>exR e (codeT call' yl' n b t tr s K) fun e=>K e t tr s)=some r from h)
    rw [runC,h2]
    cases e with
    | normal=>exact ihb _ _ _ _ _ h1
    | _=>exact⟨_,_,_,_,h1,rfl⟩
  | cond c a b iha ihb =>
    intro t tr s K r h
    have h:(match evR t c with
      | .bool b'=>Bool.casesOn (motive:=fun _=>Option RT) b' (codeT call' yl' n b t tr s K) (codeT call' yl' n a t tr s K)
      | _=>none)=some r:=h
    rw [evR_eq] at h
    rw [runC]
    split at h
    · rename_i b' hb
      simp only [hb]
      cases b' with
      | true=>exact iha _ _ _ _ _ h
      | false=>exact ihb _ _ _ _ _ h
    · cases h
  | block id a ih =>
    intro t tr s K r h
    obtain⟨e,t1,tr1,s1,h1,h2⟩:=ih t tr s _ r (show codeT call' yl' n a t tr s (fun e t tr s=>match e with
      | .exit id'=>yes (Nat.beq id' id) (K .normal t tr s) (K (.exit id') t tr s)
      | e=>K e t tr s)=some r from h)
    rw [runC,h2]
    cases e with
    | exit id' =>
      simp only [yes_eq,Nat.beq_eq] at h1 ⊢
      split at h1
      · rename_i hid;simp only [hid,if_true];exact⟨_,_,_,_,h1,rfl⟩
      · rename_i hid;simp only [hid,if_false];exact⟨_,_,_,_,h1,rfl⟩
    | _=>exact⟨_,_,_,_,h1,rfl⟩
  | loop a ih =>
    intro t tr s K r h
    exact loopT_some (fun t tr s K r h=>ih t tr s K r h) n t tr s K r h
  | scope a ih =>
    intro t tr s K r h
    obtain⟨e,t1,tr1,s1,h1,h2⟩:=ih t tr s _ r (show codeT call' yl' n a t tr s (fun e t tr s=>match e with
      | .goto _=>none
      | e=>K e t tr s)=some r from h)
    rw [runC,h2]
    cases e with
    | goto l=>cases h1
    | _=>exact⟨_,_,_,_,h1,rfl⟩
  | exit id=>intro t tr s K r h;exact⟨_,_,_,_,h,rfl⟩
  | ret=>intro t tr s K r h;exact⟨_,_,_,_,h,rfl⟩
  | rangeFunc f ps a b iha ihb =>
    intro t tr s K r h
    have h:(match evR t f with
      | .fn (.func g) first caps=>yes (allR (fun x=>scR s x.2) t) (appR first (.yield s :: caps) fun args=>setT tr s (.other (.loop t ps a b .ready)) fun tr1=>fN (Nat.succ s) fun s1=>outT (call' g args tr1 s1) fun _ tr' s' =>
          endR (obT tr' s' s) fun e=>setT tr' s .dead fun tr'=>K e t tr' s') none
      | _=>none)=some r:=h
    rw [evR_eq] at h
    rw [runC]
    split at h
    · rename_i g first caps hf
      simp only [hf]
      obtain⟨g1,h⟩:=yes_some h
      simp only [allR_eq,scR_eq] at g1
      have hsc:tSc s t=true:=g1
      rw [appR_eq] at h
      obtain⟨tr1,h1,h2⟩:=setT_some h
      rw [fN_eq] at h1
      obtain⟨v,tr2,s2,h3,h4⟩:=outT_some h1
      have hcall:=hc _ _ _ _ _ _ _ h3
      rw [show s.succ=s+1 from rfl,ab_push h2] at hcall
      simp only [hsc,if_true,ab_len,List.append_assoc,List.cons_append,List.nil_append,hcall]
      unfold endR at h4
      rw [obT_eq] at h4
      split at h4
      · rename_i hob
        obtain⟨tr3,h5,h6⟩:=setT_some h4
        refine⟨_,_,_,_,h5,?_⟩
        simp only [hob,ab_set h6]
      · rename_i hob
        obtain⟨tr3,h5,h6⟩:=setT_some h4
        refine⟨_,_,_,_,h5,?_⟩
        simp only [hob,ab_set h6]
      · cases h4
    · cases h
  | bad=>intro t tr s K r h;cases h
end
end
end Go.Abs
end
