/- The abstract machine, run for the kernel: code made ready once (a field of what is reckoned is kept by the kernel). -/
import Derived.Test.YtdocpfbfchaekaaGreatA33
noncomputable section
namespace Go.Abs
open Go.RowKit
structure Bx (δ:Type) where
  f:δ
section
def scalQ (v:AV):Bool:=AV.rec (motive_1:=fun _=>Bool) (motive_2:=fun _=>Unit) (fun _=>true) (fun _ _=>true) (fun _=>true) (fun _ _=>true) true (fun _ _ _ _ _=>true) true (fun _=>true) true (fun _ _ _ _ _=>true) true (fun _=>true) (fun _ _ _=>true) true (fun _ _=>false) (fun _ _=>false) false () (fun _ _ _ _=>()) v
theorem scalQ_eq:scalQ=scal:=by funext v;cases v <;> rfl
def kStore (a:AOpd) (n:Nat) (x:AOpd):Op1:=fun t tr s K=>mPtr (evQ t a) (fun id off=>cellsQ (evQ t x) fun vs=>yes (Nat.beq (lenR vs) n) (yes (allR scalQ vs) (wrtQ tr s id off vs fun tr'=>K (.tuple []) tr' s) none) none) none
theorem kStore_eq (a:AOpd) (n:Nat) (x:AOpd):kStore   a n x=qStore a n x:=by unfold kStore qStore;rw [scalQ_eq]
def kAppend (x y:AOpd) (sz bytes:Nat):Op1:=fun t tr s K=>slQ tr s sz (evQ t x) fun n old=>slQ tr s sz (evQ t y) fun m new=>yes (allR scalQ new) (yes (Nat.ble (Nat.mul (Nat.add n m) bytes) 140737488355328)
  (mSlice (evQ t x) (fun id off _ _ _=>yes (Nat.ble (Nat.succ id) s) (mCells (getT tr id) fun _ own=>yes own (yes (Nat.beq off 0) (fN (Nat.add n m) fun l=>appR old new fun cs=>setT tr id .dead fun tr=>newT cs tr s fun tr' s'=>K (.slice s 0 l sz false) tr' s') none) none) none)
    (mNilS (evQ t x) (fN m fun m=>newT new tr s fun tr' s'=>K (.slice s 0 m sz false) tr' s') none)) none) none
theorem kAppend_eq (x y:AOpd) (sz bytes:Nat):kAppend   x y sz bytes=qAppend x y sz bytes:=by unfold kAppend qAppend;rw [scalQ_eq]
def binB (op:BinOp):Bx (AOpd→AOpd→CallT→YlT→Op1):=BinOp.rec (motive:=fun _=>Bx (AOpd→AOpd→CallT→YlT→Op1)) ⟨fun x y _ _=>qAdd x y⟩ ⟨fun x y _ _=>qSub x y⟩ ⟨fun x y _ _=>qMul x y⟩ ⟨fun x y _ _=>fxQ (.bin .quo x y)⟩ ⟨fun x y _ _=>fxQ (.bin .rem x y)⟩ ⟨fun x y _ _=>fxQ (.bin .and x y)⟩ ⟨fun x y _ _=>fxQ (.bin .or x y)⟩ ⟨fun x y _ _=>fxQ (.bin .xor x y)⟩ ⟨fun x y _ _=>fxQ (.bin .shl x y)⟩ ⟨fun x y _ _=>fxQ (.bin .shr x y)⟩ ⟨fun x y _ _=>fxQ (.bin .andNot x y)⟩ ⟨fun x y _ _=>qEql x y⟩ ⟨fun x y _ _=>qNeq x y⟩ ⟨fun x y _ _=>qLss x y⟩ ⟨fun x y _ _=>qLeq x y⟩ ⟨fun x y _ _=>qGtr x y⟩ ⟨fun x y _ _=>qGeq x y⟩ op
def opB (o:AOp):Bx (CallT→YlT→Op1):=AOp.rec (motive:=fun _=>Bx (CallT→YlT→Op1)) (fun a=>⟨fun _ _=>qMov a⟩) (fun a b c=>⟨fun _ _=>qPick a b c⟩) (fun a=>⟨fun _ _=>qAlloc a⟩) (fun a=>⟨fun _ _=>qBox a⟩) (fun a b=>⟨fun _ _=>qBuild a b⟩) (fun a b c d=>⟨fun _ _=>qBuildSlice a b c d⟩) (fun a=>⟨fun _ _=>qLoad1 a⟩) (fun a b=>⟨fun _ _=>qLoadN a b⟩) (fun a b c=>⟨fun _ _=>kStore a b c⟩) (fun a=>⟨fun _ _=>fxQ (.nilCheck a)⟩) (fun op x y=>⟨(binB op).f x y⟩) (fun a b c d=>⟨fun _ _=>fxQ (.eqCells a b c d)⟩) (fun a=>⟨fun _ _=>fxQ (.neg a)⟩) (fun a=>⟨fun _ _=>qNot a⟩) (fun a b=>⟨fun _ _=>fxQ (.conv a b)⟩) (fun a b c=>⟨fun _ _=>qMkfn a b c⟩) (fun a b=>⟨fun _ _=>qFieldAddr a b⟩) (fun a b=>⟨fun _ _=>qField1 a b⟩) (fun a b c=>⟨fun _ _=>qFieldN a b c⟩) (fun a b c=>⟨fun _ _=>qIdxSl a b c⟩) (fun a b c d=>⟨fun _ _=>qIdxArr a b c d⟩) (fun a b c=>⟨fun _ _=>fxQ (.index1 a b c)⟩) (fun a b c d=>⟨fun _ _=>qIndexN a b c d⟩) (fun a b c d=>⟨fun _ _=>fxQ (.slice a b c d)⟩) (fun a b c d e=>⟨fun _ _=>fxQ (.slice3 a b c d e)⟩) (fun a b=>⟨fun _ _=>qExtract a b⟩) (fun a=>⟨fun _ _=>qLen a⟩) (fun a=>⟨fun _ _=>fxQ (.lenS a)⟩) (fun a b c d=>⟨fun _ _=>kAppend a b c d⟩) (fun a b=>⟨fun _ _=>fxQ (.min2 a b)⟩) (fun a b=>⟨fun _ _=>fxQ (.max2 a b)⟩) (fun a b c d=>⟨fun _ _=>fxQ (.eqv a b c d)⟩) (fun a b c=>⟨fun _ _=>fxQ (.shift a b c)⟩) (fun a=>⟨fun _ _=>fxQ (.capS a)⟩) (fun a b=>⟨fun _ _=>fxQ (.sIdx a b)⟩) (fun a b c=>⟨fun _ _=>fxQ (.sSlice a b c)⟩) (fun a b c d e=>⟨fun _ _=>fxQ (.makeSl a b c d e)⟩) ⟨fun _ _=>fxQ .makeMap⟩ (fun a b c d e=>⟨fun _ _=>fxQ (.mapGet a b c d e)⟩) (fun a b c d=>⟨fun _ _=>fxQ (.mapPut a b c d)⟩) (fun a b c=>⟨fun _ _=>fxQ (.mapDel a b c)⟩) (fun a=>⟨fun _ _=>fxQ (.mapClear a)⟩) (fun a=>⟨fun _ _=>fxQ (.lenM a)⟩) (fun a=>⟨fun _ _=>fxQ (.rangeM a)⟩) (fun a=>⟨fun _ _=>fxQ (.nextM a)⟩) (fun a=>⟨fun _ _=>fxQ (.entryM a)⟩) ⟨fun _ _=>fxQ .bad⟩ (fun f args=>⟨fun call _ t tr s K=>evsQ t args fun as=>outQ (call f as tr s) K⟩) (fun f args=>⟨qCallV f args⟩) (fun a b c d e=>⟨fun _ _=>fxQ (.appZ a b c d e)⟩) o
theorem opB_eq (o:AOp):(opB   o).f=oneQ o:=by
  cases o
  case bin op x y=>cases op <;> rfl
  case store a n x=>funext _ _;exact kStore_eq a n x
  case append x y sz bytes=>funext _ _;exact kAppend_eq x y sz bytes
  all_goals rfl
abbrev OsQ:=Tm→Tr→Nat→(Tm→Tr→Nat→Option RT)→Option RT
def dstB (d:Option Nat):Bx (Op1→OsQ→OsQ):=Option.rec (motive:=fun _=>Bx (Op1→OsQ→OsQ)) ⟨fun op ih t tr s K=>op t tr s fun _ tr' s'=>ih t tr' s' K⟩ (fun d=>⟨fun op ih t tr s K=>op t tr s fun v tr' s'=>ih ((d,v) :: t) tr' s' K⟩) d
def skipB (d:Option Nat):Bx (OsQ→OsQ):=Option.rec (motive:=fun _=>Bx (OsQ→OsQ)) ⟨fun ih=>ih⟩ (fun d=>⟨fun ih t=>ih ((d,.tuple []) :: t)⟩) d
def guardB (g:Option (Nat × Bool)):Bx (OsQ→OsQ→OsQ):=Option.rec (motive:=fun _=>Bx (OsQ→OsQ→OsQ)) ⟨fun y _=>y⟩
  (fun p=>⟨fun y n t tr s K=>mBool (lkR t p.1) (fun b=>Bool.rec (motive:=fun _=>OsQ) (Bool.rec (motive:=fun _=>OsQ) y n p.2) (Bool.rec (motive:=fun _=>OsQ) n y p.2) b t tr s K) (mTuple (lkR t p.1) (fun vs=>List.rec (motive:=fun _=>OsQ) n (fun _ _ _ _ _ _ _=>none) vs t tr s K) none)⟩) g
theorem guardB_eq (g:Option (Nat × Bool)) (y n:OsQ) (t:Tm) (tr:Tr) (s:Nat) (K:Tm→Tr→Nat→Option RT):(guardB g).f y n t tr s K=wantsQ g t (y t tr s K) (n t tr s K):=by
  cases g with
  | none=>rfl
  | some p =>
    obtain⟨g,want⟩:=p
    show mBool (lkR t g) _ _=mBool (lkR t g) _ _
    cases lkR t g with
    | bool b=>cases b <;> cases want <;> rfl
    | tuple vs=>cases vs <;> rfl
    | _=>rfl
def opsB (l:List AO):Bx (CallT→YlT→OsQ) :=
  List.rec (motive:=fun _=>Bx (CallT→YlT→OsQ)) ⟨fun _ _ t tr s K=>K t tr s⟩
    (fun o _ ih=>⟨fun call yl=>(guardB o.guard).f ((dstB o.dst).f ((opB o.op).f call yl) (ih.f call yl)) ((skipB o.dst).f (ih.f call yl))⟩) l
theorem opsB_eq (call:CallT) (yl:YlT):∀ (l:List AO),(opsB   l).f call yl=opsQ call yl l
  | []=>rfl
  | o :: os=>by
    funext t tr s K
    show (guardB o.guard).f ((dstB o.dst).f ((opB o.op).f call yl) ((opsB os).f call yl)) ((skipB o.dst).f ((opsB os).f call yl)) t tr s K=wantsQ o.guard t (oneQ o.op call yl t tr s fun v tr' s'=>putQ o.dst v t fun t=>opsQ call yl os t tr' s' K) (putQ o.dst (.tuple []) t fun t=>opsQ call yl os t tr s K)
    rw [guardB_eq,opsB_eq call yl os,opB_eq]
    cases o.dst <;> rfl
def readsQ (o:AOp) (t:Tm) (tr:Tr) (s:Nat) (v:AV):Bool:=Option.rec (motive:=fun _=>Bool) false (fun _=>true) (fxQ o t tr s (fun v' _ _=>yes (beqT v' v) (some (.junk,.nil,0)) none))
theorem readsQ_eq (o:AOp) (t:Tm) (tr:Tr) (s:Nat) (v:AV):readsQ o t tr s v=readsT o t tr s v:=by
  unfold readsQ readsT
  rw [fxQ_eq]
  generalize (fxT o t tr s fun v' x x_1=>yes (beqT v' v) (some (.junk,.nil,0)) none)=r
  cases r <;> rfl
def pastQ (ps:List Nat) (o:AOp) (t:Tm) (v:AV) (past:Past):Bool:=allR (fun p=>yes (memR p.1 ps) true (readsQ o t p.2.1 p.2.2 v)) past
def recQ (ps:List Nat) (tr:Tr) (s:Nat) (rds:List Rd):Bool:=allR (fun r=>yes (memR r.at_ ps) true (readsQ r.op r.t tr s r.v)) rds
theorem pastQ_eq (ps:List (List Nat)) (i:Nat) (o:AOp) (t:Tm) (v:AV) (past:Past):pastQ (prR ps i) o t v past=pastT ps i o t v past:=by
  simp only [pastQ,pastT,readsQ_eq]
theorem recQ_eq (ps:List (List Nat)) (i:Nat) (tr:Tr) (s:Nat) (rds:List Rd):recQ (prR ps i) tr s rds=recT ps i tr s rds:=by
  simp only [recQ,recT,readsQ_eq]
def slotsB (o:AOp):Bx (List Nat):=⟨o.slots⟩
def scopQ (sl:List Nat) (t:Tm) (s:Nat):Bool:=allR (fun k=>scR s (lkR t k)) sl
abbrev DQ:=Past→List Rd→OsQ
abbrev EQ':=CallT→YlT→List Nat→Nat→Option Nat→AOp→DQ→DQ
def e0:EQ':=fun call yl _ _ d o ih past rds t tr s K=>(opB o).f call yl t tr s fun v _ _=>putQ d v t fun t=>ih past rds t tr s K
def e1:EQ':=fun call yl ps i d o ih past rds t tr s K=>(opB o).f call yl t tr s fun v _ _=>yes (pastQ ps o t v past) (putQ d v t fun t'=>ih past (⟨i,o,t,v⟩ :: rds) t' tr s K) none
def e2:EQ':=fun call yl ps i d o ih past rds t tr s K=>(opB o).f call yl t tr s fun v tr' s'=>yes (scopQ o.slots t s) (yes (recQ ps tr' s' rds) (putQ d v t fun t'=>ih ((i,tr,s) :: past) (filterR (fun r=>!memR r.at_ ps) rds) t' tr' s' K) none) none
def e3:EQ':=fun call yl ps i d o ih past rds t tr s K=>(opB o).f call yl t tr s fun v tr' s'=>yes (scopQ o.slots t s) (yes (Nat.ble s s') (yes (recQ ps tr' s' rds) (putQ d v t fun t'=>ih ((i,tr,s) :: past) (filterR (fun r=>!memR r.at_ ps) rds) t' tr' s' K) none) none) none
def clsB (o:AOp):Bx (EQ'):=⟨AOp.rec (motive:=fun _=>EQ') (fun _=>e0) (fun _ _ _=>e0) (fun _=>e2) (fun _=>e2) (fun _ _=>e0) (fun _ _ _ _=>e2) (fun _=>e1) (fun _ _=>e1) (fun _ _ _=>e3) (fun _=>e0) (fun _ _ _=>e0) (fun _ _ _ _=>e0) (fun _=>e0) (fun _=>e0) (fun _ _=>e0) (fun _ _ _=>e0) (fun _ _=>e0) (fun _ _=>e0) (fun _ _ _=>e0) (fun _ _ _=>e0) (fun _ _ _ _=>e0) (fun _ _ _=>e0) (fun _ _ _ _=>e0) (fun _ _ _ _=>e0) (fun _ _ _ _ _=>e0) (fun _ _=>e0) (fun _=>e0) (fun _=>e0) (fun _ _ _ _=>e3) (fun _ _=>e0) (fun _ _=>e0) (fun _ _ _ _=>e0) (fun _ _ _=>e0) (fun _=>e0) (fun _ _=>e0) (fun _ _ _=>e0) (fun _ _ _ _ _=>e2) e2 (fun _ _ _ _ _=>e1) (fun _ _ _ _=>e3) (fun _ _ _=>e3) (fun _=>e3) (fun _=>e1) (fun _=>e3) (fun _=>e3) (fun _=>e1) e0 (fun _ _=>e3) (fun _ _=>e3) (fun _ _ _ _ _=>e3) o⟩
theorem clsB_eq (o:AOp):(clsB   o).f=match o.cls with|0=>e0|1=>e1|2=>e2|_=>e3:=by cases o <;> rfl
def prB (ps:List (List Nat)) (i:Nat):Bx (List Nat):=⟨prR ps i⟩
def drawB (ps:List (List Nat)) (l:List AO):Nat→Bx (CallT→YlT→DQ) :=
  List.rec (motive:=fun _=>Nat→Bx (CallT→YlT→DQ)) (fun _=>⟨fun _ _ _ _ t tr s K=>K t tr s⟩)
    (fun o _ ih i=>⟨fun call yl past rds=>(guardB o.guard).f ((clsB o.op).f call yl (prB ps i).f i o.dst o.op ((ih (Nat.succ i)).f call yl) past rds) ((skipB o.dst).f ((ih (Nat.succ i)).f call yl past rds))⟩) l
theorem drawB_eq (call:CallT) (yl:YlT) (ps:List (List Nat)):∀ (l:List AO) (i:Nat),(drawB   ps l i).f call yl=drawQ call yl ps l i
  | [],_=>rfl
  | o :: os,i=>by
    funext past rds t tr s K
    show (guardB o.guard).f ((clsB o.op).f call yl (prB ps i).f i o.dst o.op ((drawB ps os (Nat.succ i)).f call yl) past rds) ((skipB o.dst).f ((drawB ps os (Nat.succ i)).f call yl past rds)) t tr s K =
      wantsQ o.guard t (clsQ o.op call yl ps o (drawQ call yl ps os) i past rds t tr s K) (putQ o.dst (.tuple []) t fun t=>drawQ call yl ps os (Nat.succ i) past rds t tr s K)
    rw [guardB_eq,drawB_eq call yl ps os,clsB_eq,clsQ_eq]
    have h1:(skipB o.dst).f (drawQ call yl ps os (Nat.succ i) past rds) t tr s K=putQ o.dst (.tuple []) t fun t=>drawQ call yl ps os (Nat.succ i) past rds t tr s K:=by cases o.dst <;> rfl
    rw [h1]
    congr 1
    have hcalls:∀ m,o.op.cls=m→m≠3→oneQ   o.op call yl=fxQ o.op:=by
      intro m hm h3
      have:o.op.isCall=false:=by
        revert hm;cases o.op <;> intro hm <;> first|rfl|(exfalso;exact h3 hm.symm)
      rw [oneQ_plain _ this]
    revert hcalls
    generalize hm:o.op.cls=m
    intro hcalls
    rcases m with _|_|_|n
    · simp only [e0,d0,opB_eq,hcalls 0 rfl (by decide)]
    · simp only [e1,d1,opB_eq,hcalls 1 rfl (by decide),prB,pastQ_eq]
    · simp only [e2,d2,opB_eq,hcalls 2 rfl (by decide),prB,recQ_eq];rfl
    · simp only [e3,d3,opB_eq,prB,recQ_eq];rfl
def exK (e:Exit) (n:Option RT) (o:Exit→Option RT):Option RT :=
  Exit.rec (motive:=fun _=>Option RT→(Exit→Option RT)→Option RT) (fun n _=>n) (fun i _ o=>o (.exit i)) (fun l _ o=>o (.goto l)) (fun _ o=>o .ret) (fun c _ o=>o (.panic c)) (fun _ o=>o .outgrown) e n o
theorem exK_eq (e:Exit) (n:Option RT) (o:Exit→Option RT):exK e n o=exR e n o:=by cases e <;> rfl
abbrev OsE:=Tm→Tr→Nat→Kx→Option RT
def loopQ (body:OsE) (n:Nat):OsE :=
  Nat.rec (motive:=fun _=>OsE) (fun _ _ _ _=>none) (fun _ ih t tr s K=>body t tr s fun e t tr s=>exK e (ih t tr s K) fun e=>K e t tr s) n
theorem loopQ_eq (body:OsE):∀ (n:Nat),loopQ body n=loopT body n
  | 0=>rfl
  | n+1=>by
    funext t tr s K
    show (body t tr s fun e t tr s=>exK e (loopQ body n t tr s K) fun e=>K e t tr s)=(body t tr s fun e t tr s=>exR e (loopT body n t tr s K) fun e=>K e t tr s)
    simp only [exK_eq,loopQ_eq body n]
def blockK (id:Nat) (K:Kx) (e:Exit) (t:Tm) (tr:Tr) (s:Nat):Option RT :=
  Exit.rec (motive:=fun _=>Nat→OsE) (fun _ t tr s K=>K .normal t tr s) (fun i id t tr s K=>yes (Nat.beq i id) (K .normal t tr s) (K (.exit i) t tr s)) (fun l _ t tr s K=>K (.goto l) t tr s) (fun _ t tr s K=>K .ret t tr s) (fun c _ t tr s K=>K (.panic c) t tr s) (fun _ t tr s K=>K .outgrown t tr s) e id t tr s K
theorem blockK_eq (id:Nat) (K:Kx):blockK id K=blockQ id K:=by funext e t tr s;cases e <;> rfl
def liveB (live:Option (List Nat)):Bx (OsE):=Option.rec (motive:=fun _=>Bx (OsE)) ⟨fun t tr s K=>K .normal t tr s⟩ (fun ks=>⟨fun t tr s K=>pruneQ t ks fun t=>K .normal t tr s⟩) live
theorem liveB_eq (live:Option (List Nat)):(liveB   live).f=liveQ live:=by cases live <;> rfl
def codeB (c:AC):Bx (CQ) :=
  AC.rec (motive:=fun _=>Bx (CQ))
    ⟨fun _ _ _ t tr s K=>K .normal t tr s⟩
    (fun l live=>⟨fun call yl _ t tr s K=>(opsB l).f call yl t tr s fun t tr s=>(liveB live).f t tr s K⟩)
    (fun l ps live=>⟨fun call yl _ t tr s K=>(drawB ps l 0).f call yl [] [] t tr s fun t tr s=>(liveB live).f t tr s K⟩)
    (fun _ _ ia ib=>⟨fun call yl n t tr s K=>ia.f call yl n t tr s fun e t tr s=>exK e (ib.f call yl n t tr s K) fun e=>K e t tr s⟩)
    (fun c _ _ ia ib=>⟨fun call yl n t tr s K=>mBool (evQ t c) (fun b=>Bool.rec (motive:=fun _=>CQ) ib.f ia.f b call yl n t tr s K) none⟩)
    (fun id _ ia=>⟨fun call yl n t tr s K=>ia.f call yl n t tr s (blockK id K)⟩)
    (fun _ ia=>⟨fun call yl n t tr s K=>loopQ (ia.f call yl n) n t tr s K⟩)
    (fun _ ia=>⟨fun call yl n t tr s K=>ia.f call yl n t tr s (scopeQ K)⟩)
    (fun id=>⟨fun _ _ _ t tr s K=>K (.exit id) t tr s⟩)
    ⟨fun _ _ _ t tr s K=>K .ret t tr s⟩
    (fun f ps a b _ _=>⟨rfQ f ps a b⟩)
    ⟨fun _ _ _ _ _ _ _=>none⟩ c
theorem codeB_eq:∀ (c:AC),(codeB   c).f=codeQ c:=by
  intro c
  induction c with
  | ops l live =>
    funext call yl n t tr s K
    show ((opsB l).f call yl t tr s fun t tr s=>(liveB live).f t tr s K)=(opsQ call yl l t tr s fun t tr s=>liveQ live t tr s K)
    rw [opsB_eq,liveB_eq]
  | draw l ps live =>
    funext call yl n t tr s K
    show ((drawB ps l 0).f call yl [] [] t tr s fun t tr s=>(liveB live).f t tr s K)=(drawQ call yl ps l 0 [] [] t tr s fun t tr s=>liveQ live t tr s K)
    rw [drawB_eq,liveB_eq]
  | seq a b iha ihb =>
    funext call yl n t tr s K
    show ((codeB a).f call yl n t tr s fun e t tr s=>exK e ((codeB b).f call yl n t tr s K) fun e=>K e t tr s)=(codeQ a call yl n t tr s fun e t tr s=>exR e (codeQ b call yl n t tr s K) fun e=>K e t tr s)
    simp only [iha,ihb,exK_eq]
  | cond c a b iha ihb =>
    funext call yl n t tr s K
    show mBool (evQ t c) (fun x=>Bool.rec (motive:=fun _=>CQ) (codeB b).f (codeB a).f x call yl n t tr s K) none=mBool (evQ t c) (fun x=>Bool.rec (motive:=fun _=>CQ) (codeQ b) (codeQ a) x call yl n t tr s K) none
    rw [iha,ihb]
  | block id a ih =>
    funext call yl n t tr s K
    show (codeB a).f call yl n t tr s (blockK id K)=codeQ a call yl n t tr s (blockQ id K)
    rw [ih,blockK_eq]
  | loop a ih =>
    funext call yl n t tr s K
    show loopQ ((codeB a).f call yl n) n t tr s K=loopT (codeQ a call yl n) n t tr s K
    rw [ih,loopQ_eq]
  | scope a ih =>
    funext call yl n t tr s K
    show (codeB a).f call yl n t tr s (scopeQ K)=codeQ a call yl n t tr s (scopeQ K)
    rw [ih]
  | _=>rfl
def arB (a:AR):Bx (Tm→Tr→Nat→(AV→Option RT)→Option RT):=AR.rec (motive:=fun _=>Bx (Tm→Tr→Nat→(AV→Option RT)→Option RT)) (fun n=>⟨fun t _ _ k=>wQ (lkR t n) k⟩) (fun n=>⟨fun t tr s k=>mPtr (lkR t n) (fun id off=>rd1Q tr s id off k) none⟩) (fun n m=>⟨fun t tr s k=>mPtr (lkR t n) (fun id off=>rdQ tr s id off m fun vs=>k (.agg vs)) none⟩) a
theorem arB_eq (a:AR) (t:Tm) (tr:Tr) (s:Nat) (k:AV→Option RT):(arB a).f t tr s k=arT a t tr s k:=by
  cases a with
  | t n=>show wQ (lkR t n) k=wV (lkR t n) k;rw [wQ_eq,wV_eq]
  | cell1 n =>
    show mPtr (lkR t n) _ none=_
    simp only [arT,rd1Q_eq]
    cases lkR t n <;> rfl
  | cellN n m =>
    show mPtr (lkR t n) _ none=_
    simp only [arT,rdQ_eq]
    cases lkR t n <;> rfl
def allB (rs:List AR):Bx (Tm→Tr→Nat→(List AV→Option RT)→Option RT) :=
  List.rec (motive:=fun _=>Bx (Tm→Tr→Nat→(List AV→Option RT)→Option RT)) ⟨fun _ _ _ k=>k []⟩ (fun a _ ih=>⟨fun t tr s k=>(arB a).f t tr s fun v=>ih.f t tr s fun vs=>k (v :: vs)⟩) rs
theorem allB_eq (t:Tm) (tr:Tr) (s:Nat):∀ (rs:List AR) (k:List AV→Option RT),(allB rs).f t tr s k=allT rs t tr s k
  | [],_=>rfl
  | a :: rs,k=>by
    show ((arB a).f t tr s fun v=>(allB rs).f t tr s fun vs=>k (v :: vs))=(arT a t tr s fun v=>allT rs t tr s fun vs=>k (v :: vs))
    rw [arB_eq]
    simp only [allB_eq t tr s rs]
def oneOr (vs:List AV) (k:AV→Option RT):Option RT:=List.rec (motive:=fun _=>(AV→Option RT)→Option RT) (fun k=>k (.tuple [])) (fun v r _ k=>List.rec (motive:=fun _=>AV→(AV→Option RT)→Option RT) (fun v k=>k v) (fun w r _ v k=>k (.tuple (v :: w :: r))) r v k) vs k
def resQ (rs:List AR) (t:Tm) (tr:Tr) (s:Nat) (k:AV→Option RT):Option RT:=(allB rs).f t tr s fun vs=>oneOr vs k
theorem resQ_eq (rs:List AR) (t:Tm) (tr:Tr) (s:Nat) (k:AV→Option RT):resQ rs t tr s k=resT t tr s rs k:=by
  unfold resQ resT
  rw [allB_eq]
  congr 1
  funext vs
  rcases vs with _|⟨v,_|⟨w,vs⟩⟩ <;> rfl
def leaveQ (rs:List AR) (ex:Exit) (t:Tm) (tr:Tr) (s:Nat):Option (AV × Tr × Nat) :=
  Exit.rec (motive:=fun _=>List AR→Tm→Tr→Nat→Option (AV × Tr × Nat)) (fun rs t tr s=>resQ rs t tr s fun v=>some (v,tr,s)) (fun _ _ _ _ _=>none) (fun _ _ _ _ _=>none) (fun rs t tr s=>resQ rs t tr s fun v=>some (v,tr,s)) (fun _ _ _ _ _=>none) (fun _ _ _ _=>none) ex rs t tr s
def funB (e:Option Ent):Bx (CallT→YlT→Nat→List AV→Tr→Nat→Option (AV × Tr × Nat)):=Option.rec (motive:=fun _=>Bx (CallT→YlT→Nat→List AV→Tr→Nat→Option (AV × Tr × Nat))) ⟨fun _ _ _ _ _ _=>none⟩
  (fun e=>⟨fun call yl n args tr s=>yes (Nat.beq (lenR args) e.n) (argsQ args 0 fun t=>(codeB e.ac).f call yl n t tr s (leaveQ e.rs)) none⟩) e
theorem funB_eq (call:CallT) (yl:YlT) (T:ETr) (n:Nat) (f:FuncId) (args:List AV) (tr:Tr) (s:Nat):(funB (getE T f)).f call yl n args tr s=funcQ call yl T n f args tr s:=by
  unfold funcQ
  cases getE T f with
  | none=>rfl
  | some e =>
    show yes _ (argsQ args 0 fun t=>(codeB e.ac).f call yl n t tr s (leaveQ e.rs)) none=yes _ (argsQ args 0 fun t=>codeQ e.ac call yl n t tr s _) none
    rw [codeB_eq]
    congr 1
    congr 1
    funext t
    congr 1
    funext ex t' tr' s'
    cases ex <;> first|rfl|(show resQ e.rs t' tr' s' _=resT t' tr' s' e.rs _;rw [resQ_eq])
def mLoop (o:AObj) (k:Tm→List Nat→AC→AC→Phase→Option RT):Option RT:=AObj.rec (motive:=fun _=>(Tm→List Nat→AC→AC→Phase→Option RT)→Option RT) (fun _ _ _=>none) (fun o k=>OObj.rec (motive:=fun _=>(Tm→List Nat→AC→AC→Phase→Option RT)→Option RT) (fun _ _ _ _=>none) (fun _ _ _ _ _=>none) (fun t ps a b ph k=>k t ps a b ph) o k) (fun _=>none) o k
def rLeave (id:Nat) (e:Exit) (_:Tm) (tr2:Tr) (s2:Nat):Option (AV × Tr × Nat) :=
  yes (Nat.ble (Nat.succ id) s2) (mLoop (getT tr2 id) fun t2 ps2 a2 b2 ph=>Phase.rec (motive:=fun _=>Option (AV × Tr × Nat)) none
    (Exit.rec (motive:=fun _=>Option (AV × Tr × Nat)) (setT tr2 id (.other (.loop t2 ps2 a2 b2 .ready)) fun tr=>some (.bool true,tr,s2)) (fun k=>setT tr2 id (.other (.loop t2 ps2 a2 b2 (.done (.exit k)))) fun tr=>some (.bool false,tr,s2)) (fun _=>none)
      (setT tr2 id (.other (.loop t2 ps2 a2 b2 (.done .ret))) fun tr=>some (.bool false,tr,s2)) (fun _=>none) none e) (fun _=>none) ph) none
def roundB (call:CallT) (yl:YlT) (n:Nat) (id:Nat) (args:List AV) (tr:Tr) (s:Nat):Option (AV × Tr × Nat) :=
  yes (Nat.ble (Nat.succ id) s) (mLoop (getT tr id) fun t ps a b ph=>Phase.rec (motive:=fun _=>Option (AV × Tr × Nat))
    (yes (Nat.beq (lenR args) (lenR ps)) (roundTQ ps args t fun t=>(codeB a).f call yl n t tr s fun e t1 tr1 s1=>exK e
      (yes (Nat.ble (Nat.succ id) s1) (mLoop (getT tr1 id) fun t0 ps1 a1 b1 ph=>Phase.rec (motive:=fun _=>Option (AV × Tr × Nat)) (setT tr1 id (.other (.loop t0 ps1 a1 b1 .busy)) fun tr1=>(codeB b).f call yl n t1 tr1 s1 (rLeave id)) none (fun _=>none) ph) none) fun _=>none) none) none (fun _=>none) ph) none
theorem roundB_eq (call:CallT) (yl:YlT) (n:Nat) (id:Nat) (args:List AV) (tr:Tr) (s:Nat):roundB call yl n id args tr s=roundQ call yl n id args tr s:=by
  unfold roundB roundQ
  unfold obT
  cases Nat.ble id.succ s with
  | false=>rfl
  | true =>
    simp only [yes_eq,if_true]
    cases getT tr id with
    | cells _ _=>rfl
    | dead=>rfl
    | other x =>
      cases x with
      | map _ _ _=>rfl
      | iter _ _ _ _=>rfl
      | loop t ps a b ph =>
        cases ph with
        | busy=>rfl
        | done _=>rfl
        | ready =>
          show (if Nat.beq (lenR args) (lenR ps)=true then _ else none)=if Nat.beq (lenR args) (lenR ps)=true then _ else none
          congr 1
          congr 1
          funext t
          rw [codeB_eq]
          congr 1
          funext e t1 tr1 s1
          cases e <;> try rfl
          simp only [exK]
          cases Nat.ble id.succ s1 with
          | false=>rfl
          | true =>
            simp only [if_true]
            cases getT tr1 id with
            | cells _ _=>rfl
            | dead=>rfl
            | other x =>
              cases x with
              | map _ _ _=>rfl
              | iter _ _ _ _=>rfl
              | loop t0 ps1 a1 b1 ph =>
                cases ph with
                | busy=>rfl
                | done _=>rfl
                | ready =>
                  show (setT tr1 id (.other (.loop t0 ps1 a1 b1 .busy)) fun tr1=>(codeB b).f call yl n t1 tr1 s1 (rLeave id))=(setT tr1 id (.other (.loop t0 ps1 a1 b1 .busy)) fun tr1=>codeQ b call yl n t1 tr1 s1 _)
                  congr 1
                  funext tr1
                  rw [codeB_eq]
                  congr 1
                  funext e t2 tr2 s2
                  unfold rLeave
                  cases Nat.ble id.succ s2 with
                  | false=>rfl
                  | true =>
                    simp only [yes_eq,if_true]
                    cases getT tr2 id with
                    | cells _ _=>rfl
                    | dead=>rfl
                    | other x =>
                      cases x with
                      | map _ _ _=>rfl
                      | iter _ _ _ _=>rfl
                      | loop t0 ps1 a1 b1 ph=>cases ph <;> cases e <;> rfl
end
def goB (T:ETr) (n:Nat):CallT × YlT :=
  Nat.rec (motive:=fun _=>CallT × YlT) (fun _ _ _ _=>none,fun _ _ _ _=>none) (fun n ih=>(fun f args tr s=>(funB (getE T f)).f ih.1 ih.2 n args tr s,roundB ih.1 ih.2 n)) n
theorem goB_eq (T:ETr):∀ n,goB T n=goQ T n
  | 0=>rfl
  | n+1=>by
    show ((fun f args tr s=>(funB (getE T f)).f (goB T n).1 (goB T n).2 n args tr s,roundB (goB T n).1 (goB T n).2 n):CallT × YlT)=(funcQ (goQ T n).1 (goQ T n).2 T n,roundQ (goQ T n).1 (goQ T n).2 n)
    rw [goB_eq T n]
    congr 1
    · funext f args tr s;exact funB_eq _ _ _ _ _ _ _ _
    · funext id args tr s;exact roundB_eq _ _ _ _ _ _ _
end Go.Abs
end
