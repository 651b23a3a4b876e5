/- The abstract machine, run for the kernel: code and calls, with closed cases. -/
import Derived.Test.YtdocpfbfchaekaaGreatA32
noncomputable section
namespace Go.Abs
open Go.RowKit
section
def outQ (r:Option (AV × Tr × Nat)) (K:Kt):Option RT:=Option.rec (motive:=fun _=>Kt→Option RT) (fun _=>none) (fun p K=>K p.1 p.2.1 p.2.2) r K
theorem outQ_eq (r:Option (AV × Tr × Nat)) (K:Kt):outQ r K=outT r K:=by cases r <;> rfl
def fnNo (f:Fn) (k:FuncId→Option RT):Option RT:=match f with
  | .func g=>k g
  | _=>none
def qCallV (f:AOpd) (args:List AOpd) (call:CallT) (yl:YlT):Op1:=fun t tr s K =>
  mFn (evQ t f) (fun g first caps=>fnNo g fun g=>evsQ t args fun as=>appR as caps fun bs=>appR first bs fun cs=>outQ (call g cs tr s) K) (mYield (evQ t f) (fun id=>evsQ t args fun as=>outQ (yl id as tr s) K) none)
def oneQ (o:AOp):CallT→YlT→Op1 :=
  AOp.rec (motive:=fun _=>CallT→YlT→Op1) (fun a _ _=>fxQ (.mov a)) (fun a b c _ _=>fxQ (.pick a b c)) (fun a _ _=>fxQ (.alloc a)) (fun a _ _=>fxQ (.box a)) (fun a b _ _=>fxQ (.build a b)) (fun a b c d _ _=>fxQ (.buildSlice a b c d)) (fun a _ _=>fxQ (.load1 a)) (fun a b _ _=>fxQ (.loadN a b)) (fun a b c _ _=>fxQ (.store a b c)) (fun a _ _=>fxQ (.nilCheck a)) (fun a b c _ _=>fxQ (.bin a b c)) (fun a b c d _ _=>fxQ (.eqCells a b c d)) (fun a _ _=>fxQ (.neg a)) (fun a _ _=>fxQ (.not a)) (fun a b _ _=>fxQ (.conv a b)) (fun a b c _ _=>fxQ (.mkfn a b c)) (fun a b _ _=>fxQ (.fieldAddr a b)) (fun a b _ _=>fxQ (.field1 a b)) (fun a b c _ _=>fxQ (.fieldN a b c)) (fun a b c _ _=>fxQ (.idxSl a b c)) (fun a b c d _ _=>fxQ (.idxArr a b c d)) (fun a b c _ _=>fxQ (.index1 a b c)) (fun a b c d _ _=>fxQ (.indexN a b c d)) (fun a b c d _ _=>fxQ (.slice a b c d)) (fun a b c d e _ _=>fxQ (.slice3 a b c d e)) (fun a b _ _=>fxQ (.extract a b)) (fun a _ _=>fxQ (.len a)) (fun a _ _=>fxQ (.lenS a)) (fun a b c d _ _=>fxQ (.append a b c d)) (fun a b _ _=>fxQ (.min2 a b)) (fun a b _ _=>fxQ (.max2 a b)) (fun a b c d _ _=>fxQ (.eqv a b c d)) (fun a b c _ _=>fxQ (.shift a b c)) (fun a _ _=>fxQ (.capS a)) (fun a b _ _=>fxQ (.sIdx a b)) (fun a b c _ _=>fxQ (.sSlice a b c)) (fun a b c d e _ _=>fxQ (.makeSl a b c d e)) (fun _ _=>fxQ .makeMap) (fun a b c d e _ _=>fxQ (.mapGet a b c d e)) (fun a b c d _ _=>fxQ (.mapPut a b c d)) (fun a b c _ _=>fxQ (.mapDel a b c)) (fun a _ _=>fxQ (.mapClear a)) (fun a _ _=>fxQ (.lenM a)) (fun a _ _=>fxQ (.rangeM a)) (fun a _ _=>fxQ (.nextM a)) (fun a _ _=>fxQ (.entryM a)) (fun _ _=>fxQ .bad) (fun f args call _ t tr s K=>evsQ t args fun as=>outQ (call f as tr s) K) qCallV (fun a b c d e _ _=>fxQ (.appZ a b c d e)) o
theorem oneQ_plain (o:AOp) (h:o.isCall=false):oneQ   o=fun _ _=>fxQ o:=by
  cases o <;> first|rfl|cases h
theorem oneT_plain (o:AOp) (h:o.isCall=false) (call:CallT) (yl:YlT):oneT   call yl o=fxT o:=by
  cases o <;> first|rfl|cases h
theorem oneQ_eq (o:AOp) (call:CallT) (yl:YlT) (t:Tm) (tr:Tr) (s:Nat) (K:Kt):oneQ o call yl t tr s K=oneT call yl o t tr s K:=by
  cases o
  case callF f args =>
    show (evsQ t args fun as=>outQ (call f as tr s) K)=_
    simp only [oneT,evsQ_eq,outQ_eq]
  case callV f args =>
    show qCallV f args call yl t tr s K=_
    simp only [qCallV,oneT,evsQ_eq,outQ_eq,evQ_eq]
    cases evR t f with
    | fn g a b=>cases g <;> rfl
    | _=>rfl
  all_goals (rw [oneQ_plain _ rfl,oneT_plain _ rfl];exact fxQ_eq _ t tr s K)
def wantsQ (g:Option (Nat × Bool)) (t:Tm) (y n:Option RT):Option RT :=
  Option.rec (motive:=fun _=>Tm→Option RT→Option RT→Option RT) (fun _ y _=>y)
    (fun p t y n=>mBool (lkR t p.1) (fun b=>Bool.rec (motive:=fun _=>Option RT) (Bool.rec (motive:=fun _=>Option RT) y n p.2) (Bool.rec (motive:=fun _=>Option RT) n y p.2) b) (mTuple (lkR t p.1) (fun vs=>List.rec (motive:=fun _=>Option RT) n (fun _ _ _=>none) vs) none)) g t y n
theorem wantsQ_eq (o:AO) (t:Tm) (y n:Option RT):wantsQ o.guard t y n=wantsR o t fun b=>Bool.casesOn (motive:=fun _=>Option RT) b n y:=by
  unfold wantsQ wantsR
  cases o.guard with
  | none=>rfl
  | some p =>
    obtain⟨g,want⟩:=p
    show mBool (lkR t g) _ _=match lkR t g with|.bool b=>_|.tuple []=>_|_=>none
    cases lkR t g with
    | bool b=>cases b <;> cases want <;> rfl
    | tuple vs=>cases vs <;> rfl
    | _=>rfl
def putQ (dst:Option Nat) (v:AV) (t:Tm) (K:Tm→Option RT):Option RT:=Option.rec (motive:=fun _=>AV→Tm→(Tm→Option RT)→Option RT) (fun _ t K=>K t) (fun d v t K=>K ((d,v) :: t)) dst v t K
theorem putQ_eq (dst:Option Nat) (v:AV) (t:Tm) (K:Tm→Option RT):putQ dst v t K=putR dst v t K:=by cases dst <;> rfl
def opsQ (call:CallT) (yl:YlT) (l:List AO):Tm→Tr→Nat→(Tm→Tr→Nat→Option RT)→Option RT :=
  List.rec (motive:=fun _=>Tm→Tr→Nat→(Tm→Tr→Nat→Option RT)→Option RT) (fun t tr s K=>K t tr s)
    (fun o _ ih t tr s K=>wantsQ o.guard t (oneQ o.op call yl t tr s fun v tr' s'=>putQ o.dst v t fun t=>ih t tr' s' K) (putQ o.dst (.tuple []) t fun t=>ih t tr s K)) l
theorem opsQ_eq (call:CallT) (yl:YlT):∀ (l:List AO) (t:Tm) (tr:Tr) (s:Nat) (K:Tm→Tr→Nat→Option RT),opsQ call yl l t tr s K=opsT call yl l t tr s K
  | [],_,_,_,_=>rfl
  | o :: os,t,tr,s,K=>by
    show wantsQ o.guard t (oneQ o.op call yl t tr s fun v tr' s'=>putQ o.dst v t fun t=>opsQ call yl os t tr' s' K) (putQ o.dst (.tuple []) t fun t=>opsQ call yl os t tr s K)=wantsR o t fun b=>Bool.casesOn (motive:=fun _=>Option RT) b (putR o.dst (.tuple []) t fun t=>opsT call yl os t tr s K) (oneT call yl o.op t tr s fun v tr' s'=>putR o.dst v t fun t=>opsT call yl os t tr' s' K)
    rw [wantsQ_eq]
    simp only [oneQ_eq,putQ_eq,opsQ_eq call yl os]
abbrev Dr:=Nat→Past→List Rd→Tm→Tr→Nat→(Tm→Tr→Nat→Option RT)→Option RT
abbrev DS:=CallT→YlT→List (List Nat)→AO→Dr→Dr
def d0:DS:=fun _ _ _ o ih i past rds t tr s K=>fxQ o.op t tr s fun v _ _=>putQ o.dst v t fun t=>ih (Nat.succ i) past rds t tr s K
def d1:DS:=fun _ _ ps o ih i past rds t tr s K=>fxQ o.op t tr s fun v _ _=>yes (pastT ps i o.op t v past) (putQ o.dst v t fun t'=>ih (Nat.succ i) past (⟨i,o.op,t,v⟩ :: rds) t' tr s K) none
def d2:DS:=fun _ _ ps o ih i past rds t tr s K=>fxQ o.op t tr s fun v tr' s'=>yes (scopT o.op t s) (yes (recT ps i tr' s' rds) (putQ o.dst v t fun t'=>ih (Nat.succ i) ((i,tr,s) :: past) (leftR ps i rds) t' tr' s' K) none) none
def d3:DS:=fun call yl ps o ih i past rds t tr s K=>oneQ o.op call yl t tr s fun v tr' s'=>yes (scopT o.op t s) (yes (Nat.ble s s') (yes (recT ps i tr' s' rds) (putQ o.dst v t fun t'=>ih (Nat.succ i) ((i,tr,s) :: past) (leftR ps i rds) t' tr' s' K) none) none) none
def clsQ (o:AOp):DS:=AOp.rec (motive:=fun _=>DS) (fun _=>d0) (fun _ _ _=>d0) (fun _=>d2) (fun _=>d2) (fun _ _=>d0) (fun _ _ _ _=>d2) (fun _=>d1) (fun _ _=>d1) (fun _ _ _=>d3) (fun _=>d0) (fun _ _ _=>d0) (fun _ _ _ _=>d0) (fun _=>d0) (fun _=>d0) (fun _ _=>d0) (fun _ _ _=>d0) (fun _ _=>d0) (fun _ _=>d0) (fun _ _ _=>d0) (fun _ _ _=>d0) (fun _ _ _ _=>d0) (fun _ _ _=>d0) (fun _ _ _ _=>d0) (fun _ _ _ _=>d0) (fun _ _ _ _ _=>d0) (fun _ _=>d0) (fun _=>d0) (fun _=>d0) (fun _ _ _ _=>d3) (fun _ _=>d0) (fun _ _=>d0) (fun _ _ _ _=>d0) (fun _ _ _=>d0) (fun _=>d0) (fun _ _=>d0) (fun _ _ _=>d0) (fun _ _ _ _ _=>d2) d2 (fun _ _ _ _ _=>d1) (fun _ _ _ _=>d3) (fun _ _ _=>d3) (fun _=>d3) (fun _=>d1) (fun _=>d3) (fun _=>d3) (fun _=>d1) d0 (fun _ _=>d3) (fun _ _=>d3) (fun _ _ _ _ _=>d3) o
theorem clsQ_eq (o:AOp):clsQ   o=match o.cls with|0=>d0|1=>d1|2=>d2|_=>d3:=by cases o <;> rfl
def drawQ (call:CallT) (yl:YlT) (ps:List (List Nat)) (l:List AO):Dr :=
  List.rec (motive:=fun _=>Dr) (fun _ _ _ t tr s K=>K t tr s)
    (fun o _ ih i past rds t tr s K=>wantsQ o.guard t (clsQ o.op call yl ps o ih i past rds t tr s K) (putQ o.dst (.tuple []) t fun t=>ih (Nat.succ i) past rds t tr s K)) l
theorem drawQ_eq (call:CallT) (yl:YlT) (ps:List (List Nat)):∀ (l:List AO) (i:Nat) (past:Past) (rds:List Rd) (t:Tm) (tr:Tr) (s:Nat) (K:Tm→Tr→Nat→Option RT),drawQ call yl ps l i past rds t tr s K=drawT call yl ps l i past rds t tr s K
  | [],_,_,_,_,_,_,_=>rfl
  | o :: os,i,past,rds,t,tr,s,K=>by
    show wantsQ o.guard t (clsQ o.op call yl ps o (drawQ call yl ps os) i past rds t tr s K) (putQ o.dst (.tuple []) t fun t=>drawQ call yl ps os (Nat.succ i) past rds t tr s K)=(wantsR o t fun b=>Bool.casesOn (motive:=fun _=>Option RT) b (putR o.dst (.tuple []) t fun t=>drawT call yl ps os (Nat.succ i) past rds t tr s K)
      (match o.op.cls with
      | 0=>fxT o.op t tr s fun v _ _=>putR o.dst v t fun t=>drawT call yl ps os (Nat.succ i) past rds t tr s K
      | 1=>fxT o.op t tr s fun v _ _=>yes (pastT ps i o.op t v past) (putR o.dst v t fun t'=>drawT call yl ps os (Nat.succ i) past (⟨i,o.op,t,v⟩ :: rds) t' tr s K) none
      | 2=>fxT o.op t tr s fun v tr' s'=>yes (scopT o.op t s) (yes (recT ps i tr' s' rds) (putR o.dst v t fun t'=>drawT call yl ps os (Nat.succ i) ((i,tr,s) :: past) (leftR ps i rds) t' tr' s' K) none) none
      | _=>oneT call yl o.op t tr s fun v tr' s'=>yes (scopT o.op t s) (yes (Nat.ble s s') (yes (recT ps i tr' s' rds) (putR o.dst v t fun t'=>drawT call yl ps os (Nat.succ i) ((i,tr,s) :: past) (leftR ps i rds) t' tr' s' K) none) none) none))
    rw [wantsQ_eq,clsQ_eq]
    congr 1
    funext b
    cases b with
    | false=>simp only [putQ_eq,drawQ_eq call yl ps os]
    | true =>
      show (match o.op.cls with|0=>d0|1=>d1|2=>d2|_=>d3) call yl ps o (drawQ call yl ps os) i past rds t tr s K=_
      rcases o.op.cls with _|_|_|n <;> simp only [d0,d1,d2,d3,fxQ_eq,oneQ_eq,putQ_eq,drawQ_eq call yl ps os]
def exQ (e:Exit) (n:Option RT) (o:Exit→Option RT):Option RT:=exR e n o
abbrev CQ:=CallT→YlT→Nat→Tm→Tr→Nat→Kx→Option RT
def liveQ (live:Option (List Nat)) (t:Tm) (tr:Tr) (s:Nat) (K:Kx):Option RT:=Option.rec (motive:=fun _=>Tm→Tr→Nat→Kx→Option RT) (fun t tr s K=>K .normal t tr s) (fun ks t tr s K=>pruneQ t ks fun t=>K .normal t tr s) live t tr s K
def blockQ (id:Nat) (K:Kx) (e:Exit) (t:Tm) (tr:Tr) (s:Nat):Option RT:=match e with
  | .exit id'=>yes (Nat.beq id' id) (K .normal t tr s) (K (.exit id') t tr s)
  | e=>K e t tr s
def scopeQ (K:Kx) (e:Exit) (t:Tm) (tr:Tr) (s:Nat):Option RT:=match e with
  | .goto _=>none
  | e=>K e t tr s
def rfQ (f:AOpd) (ps:List Nat) (a b:AC):CQ:=fun call _ _ t tr s K=>mFn (evQ t f) (fun g first caps=>fnNo g fun g=>yes (allR (fun x=>scR s x.2) t) (appR first (.yield s :: caps) fun args=>setT tr s (.other (.loop t ps a b .ready)) fun tr1=>fN (Nat.succ s) fun s1=>outQ (call g args tr1 s1) fun _ tr' s' =>
          endR (obT tr' s' s) fun e=>setT tr' s .dead fun tr'=>K e t tr' s') none) none
def codeQ (c:AC):CQ :=
  AC.rec (motive:=fun _=>CQ)
    (fun _ _ _ t tr s K=>K .normal t tr s)
    (fun l live call yl _ t tr s K=>opsQ call yl l t tr s fun t tr s=>liveQ live t tr s K)
    (fun l ps live call yl _ t tr s K=>drawQ call yl ps l 0 [] [] t tr s fun t tr s=>liveQ live t tr s K)
    (fun _ _ ia ib call yl n t tr s K=>ia call yl n t tr s fun e t tr s=>exR e (ib call yl n t tr s K) fun e=>K e t tr s)
    (fun c _ _ ia ib call yl n t tr s K=>mBool (evQ t c) (fun b=>Bool.rec (motive:=fun _=>CQ) ib ia b call yl n t tr s K) none)
    (fun id _ ia call yl n t tr s K=>ia call yl n t tr s (blockQ id K))
    (fun _ ia call yl n t tr s K=>loopT (ia call yl n) n t tr s K)
    (fun _ ia call yl n t tr s K=>ia call yl n t tr s (scopeQ K))
    (fun id _ _ _ t tr s K=>K (.exit id) t tr s)
    (fun _ _ _ t tr s K=>K .ret t tr s)
    (fun f ps a b _ _=>rfQ f ps a b)
    (fun _ _ _ _ _ _ _=>none) c
theorem codeQ_eq (call:CallT) (yl:YlT) (n:Nat):∀ (c:AC) (t:Tm) (tr:Tr) (s:Nat) (K:Kx),codeQ c call yl n t tr s K=codeT call yl n c t tr s K:=by
  intro c
  induction c with
  | skip=>intro t tr s K;rfl
  | ops l live =>
    intro t tr s K
    show (opsQ call yl l t tr s fun t tr s=>liveQ live t tr s K)=(opsT call yl l t tr s fun t tr s=>match live with|none=>K .normal t tr s|some ks=>pruneR t ks fun t=>K .normal t tr s)
    rw [opsQ_eq]
    cases live with
    | none=>rfl
    | some ks=>simp only [liveQ,pruneQ_eq]
  | draw l ps live =>
    intro t tr s K
    show (drawQ call yl ps l 0 [] [] t tr s fun t tr s=>liveQ live t tr s K)=(drawT call yl ps l 0 [] [] t tr s fun t tr s=>match live with|none=>K .normal t tr s|some ks=>pruneR t ks fun t=>K .normal t tr s)
    rw [drawQ_eq]
    cases live with
    | none=>rfl
    | some ks=>simp only [liveQ,pruneQ_eq]
  | seq a b iha ihb =>
    intro t tr s K
    show (codeQ a call yl n t tr s fun e t tr s=>exR e (codeQ b call yl n t tr s K) fun e=>K e t tr s)=(codeT call yl n a t tr s fun e t tr s=>exR e (codeT call yl n b t tr s K) fun e=>K e t tr s)
    simp only [iha,ihb]
  | cond c a b iha ihb =>
    intro t tr s K
    show mBool (evQ t c) (fun x=>Bool.rec (motive:=fun _=>CQ) (codeQ b) (codeQ a) x call yl n t tr s K) none=(match evR t c with
      | .bool x=>Bool.casesOn (motive:=fun _=>Option RT) x (codeT call yl n b t tr s K) (codeT call yl n a t tr s K)
      | _=>none)
    rw [evQ_eq]
    cases evR t c with
    | bool x =>
      cases x with
      | true=>exact iha t tr s K
      | false=>exact ihb t tr s K
    | _=>rfl
  | block id a ih =>
    intro t tr s K
    show codeQ a call yl n t tr s (blockQ id K)=codeT call yl n a t tr s fun e t tr s=>match e with
      | .exit id'=>yes (Nat.beq id' id) (K .normal t tr s) (K (.exit id') t tr s)
      | e=>K e t tr s
    rw [ih]
    congr 1
  | loop a ih =>
    intro t tr s K
    show loopT (codeQ a call yl n) n t tr s K=loopT (codeT call yl n a) n t tr s K
    congr 1
    funext t tr s K
    exact ih t tr s K
  | scope a ih =>
    intro t tr s K
    show codeQ a call yl n t tr s (scopeQ K)=codeT call yl n a t tr s fun e t tr s=>match e with
      | .goto _=>none
      | e=>K e t tr s
    rw [ih]
    congr 1
  | exit id=>intro t tr s K;rfl
  | ret=>intro t tr s K;rfl
  | rangeFunc f ps a b iha ihb =>
    intro t tr s K
    show rfQ f ps a b call yl n t tr s K=(match evR t f with
      | .fn (.func g) first caps=>yes (allR (fun x=>scR s x.2) t) (appR first (.yield s :: caps) fun args=>setT tr s (.other (.loop t ps a b .ready)) fun tr1=>fN (Nat.succ s) fun s1=>outT (call g args tr1 s1) fun _ tr' s' =>
          endR (obT tr' s' s) fun e=>setT tr' s .dead fun tr'=>K e t tr' s') none
      | _=>none)
    simp only [rfQ,evQ_eq,outQ_eq]
    cases evR t f with
    | fn g first caps=>cases g <;> rfl
    | _=>rfl
  | bad=>intro t tr s K;rfl
def argsQ (as:List AV):Nat→(Tm→Option RT)→Option RT:=List.rec (motive:=fun _=>Nat→(Tm→Option RT)→Option RT) (fun _ k=>k []) (fun v _ ih i k=>fN (Nat.succ i) fun j=>ih j fun r=>k ((i,v) :: r)) as
theorem argsQ_eq:∀ (as:List AV) (i:Nat) (k:Tm→Option RT),argsQ as i k=k (argsT i as)
  | [],_,_=>rfl
  | v :: as,i,k=>by
    show (fN (Nat.succ i) fun j=>argsQ as j fun r=>k ((i,v) :: r))=_
    rw [fN_eq,argsQ_eq as];rfl
def roundTQ (ps:List Nat):List AV→Tm→(Tm→Option RT)→Option RT:=List.rec (motive:=fun _=>List AV→Tm→(Tm→Option RT)→Option RT) (fun _ t k=>k t) (fun p _ ih as t k=>List.rec (motive:=fun _=>Option RT) (k t) (fun v vs _=>wQ v fun v=>ih vs ((p,v) :: t) k) as) ps
theorem roundTQ_eq:∀ (ps:List Nat) (as:List AV) (t:Tm) (k:Tm→Option RT),roundTQ ps as t k=k (roundT ps as t)
  | [],as,t,k=>by cases as <;> rfl
  | p :: ps,[],t,k=>rfl
  | p :: ps,v :: vs,t,k=>by
    show (wQ v fun v=>roundTQ ps vs ((p,v) :: t) k)=_
    rw [wQ_eq,roundTQ_eq ps];rfl
def roundQ (call:CallT) (yl:YlT) (n:Nat) (id:Nat) (args:List AV) (tr:Tr) (s:Nat):Option (AV × Tr × Nat) :=
  match obT tr s id with
  | some (.other (.loop t ps a b .ready))=>yes (Nat.beq (lenR args) (lenR ps)) (roundTQ ps args t fun t=>codeQ a call yl n t tr s fun e t1 tr1 s1=>match e with
    | .normal=>match obT tr1 s1 id with
      | some (.other (.loop t0 ps1 a1 b1 .ready))=>setT tr1 id (.other (.loop t0 ps1 a1 b1 .busy)) fun tr1=>codeQ b call yl n t1 tr1 s1 fun e _ tr2 s2=>match obT tr2 s2 id with
          | some (.other (.loop t2 ps2 a2 b2 .busy))=>match e with
            | .normal=>setT tr2 id (.other (.loop t2 ps2 a2 b2 .ready)) fun tr=>some (.bool true,tr,s2)
            | .ret=>setT tr2 id (.other (.loop t2 ps2 a2 b2 (.done .ret))) fun tr=>some (.bool false,tr,s2)
            | .exit k=>setT tr2 id (.other (.loop t2 ps2 a2 b2 (.done (.exit k)))) fun tr=>some (.bool false,tr,s2)
            | _=>none
          | _=>none
      | _=>none
    | _=>none) none
  | _=>none
theorem roundQ_eq (call:CallT) (yl:YlT) (n:Nat) (id:Nat) (args:List AV) (tr:Tr) (s:Nat):roundQ call yl n id args tr s=roundT' call yl n id args tr s:=by
  simp only [roundQ,roundT',roundTQ_eq,fT_eq,codeQ_eq]
  rfl
def funcQ (call:CallT) (yl:YlT) (T:ETr) (n:Nat) (f:FuncId) (args:List AV) (tr:Tr) (s:Nat):Option (AV × Tr × Nat) :=
  match getE T f with
  | some e=>yes (Nat.beq (lenR args) e.n) (argsQ args 0 fun t=>codeQ e.ac call yl n t tr s fun ex t tr' s'=>match ex with
    | .normal=>resT t tr' s' e.rs fun v=>some (v,tr',s')
    | .ret=>resT t tr' s' e.rs fun v=>some (v,tr',s')
    | _=>none) none
  | none=>none
theorem funcQ_eq (call:CallT) (yl:YlT) (T:ETr) (n:Nat) (f:FuncId) (args:List AV) (tr:Tr) (s:Nat):funcQ call yl T n f args tr s=funcT call yl T n f args tr s:=by
  simp only [funcQ,funcT,argsQ_eq,fT_eq,codeQ_eq]
  rfl
end
def goQ (T:ETr) (n:Nat):CallT × YlT :=
  Nat.rec (motive:=fun _=>CallT × YlT) (fun _ _ _ _=>none,fun _ _ _ _=>none) (fun n ih=>(funcQ ih.1 ih.2 T n,roundQ ih.1 ih.2 n)) n
theorem goQ_eq (T:ETr):∀ n,goQ T n=goT T n
  | 0=>rfl
  | n+1=>by
    show (funcQ (goQ T n).1 (goQ T n).2 T n,roundQ (goQ T n).1 (goQ T n).2 n)=(funcT (goT T n).1 (goT T n).2 T n,roundT' (goT T n).1 (goT T n).2 n)
    rw [goQ_eq T n]
    congr 1
    · funext f args tr s;exact funcQ_eq _ _ _ _ _ _ _ _
    · funext id args tr s;exact roundQ_eq _ _ _ _ _ _ _
end Go.Abs
end
