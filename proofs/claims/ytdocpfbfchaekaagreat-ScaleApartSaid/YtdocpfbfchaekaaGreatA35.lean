/- The abstract machine, run for the kernel: the same, made ready for each depth of calls. -/
import Derived.Test.YtdocpfbfchaekaaGreatA34
noncomputable section
namespace Go.Abs
open Go.RowKit
universe u
section
def rMov (x:AOpd):Op1:=fun t tr s K=>K (evQ t x) tr s
def rPick (c a b:AOpd):Op1:=fun t tr s K=>mBool (evQ t c) (fun x=>K (evQ t (Bool.rec (motive:=fun _=>AOpd) b a x)) tr s) none
def mTwo (o:Option AV) (k:AV→Option RT):Option RT:=Option.rec (motive:=fun _=>(AV→Option RT)→Option RT) (fun _=>none) (fun v k=>k v) o k
theorem mTwo_eq (o:Option AV) (k:AV→Option RT):mTwo o k=mOne o k:=by
  cases o with
  | none=>rfl
  | some v=>show k v=wQ v k;rw [wQ_eq]
def rd1C (tr:Tr) (s id off:Nat) (k:AV→Option RT):Option RT:=yes (Nat.ble (Nat.succ id) s) (mCells (getT tr id) fun vs _=>mTwo (getR vs off) k) none
theorem rd1C_eq (tr:Tr) (s id off:Nat) (k:AV→Option RT):rd1C tr s id off k=rd1Q tr s id off k:=by
  unfold rd1C rd1Q
  simp only [mTwo_eq]
def rLoad1 (a:AOpd):Op1:=fun t tr s K=>mPtr (evQ t a) (fun id off=>rd1C tr s id off fun v=>K v tr s) none
def evsC (t:Tm) (xs:List AOpd):(List AV→(Option RT))→(Option RT):=List.rec (motive:=fun _=>(List AV→(Option RT))→(Option RT)) (fun k=>k []) (fun x _ ih k=>ih fun r=>k (evQ t x :: r)) xs
theorem evsC_eq (t:Tm):∀ (xs:List AOpd) (k:List AV→(Option RT)),evsC t xs k=evsQ t xs k
  | [],_=>rfl
  | x :: xs,k=>by
    show evsC t xs (fun r=>k (evQ t x :: r))=wQ (evQ t x) fun v=>evsQ t xs fun r=>k (v :: r)
    rw [wQ_eq,evsC_eq t xs]
def rMkfn (f:Fn) (a b:List AOpd):Op1:=fun t tr s K=>evsC t a fun a=>evsC t b fun b=>K (.fn f a b) tr s
def rField1 (x:AOpd) (off:Nat):Op1:=fun t tr s K=>mAgg (evQ t x) (fun cs=>mTwo (getR cs off) fun v=>K v tr s) none
def rExtract (x:AOpd) (i:Nat):Op1:=fun t tr s K=>mTuple (evQ t x) (fun vs=>mTwo (getR vs i) fun v=>K v tr s) none
def scal1 (v:AV) (k:AV→Option RT) (e:Option RT):Option RT:=AV.rec (motive_1:=fun _=>(AV→Option RT)→Option RT→Option RT) (motive_2:=fun _=>Unit) (fun a  k _=>k (.bool a)) (fun a b  k _=>k (.int a b)) (fun a  k _=>k (.str a)) (fun a b  k _=>k (.ptr a b)) (fun   k _=>k .nil) (fun a b c d e  k _=>k (.slice a b c d e)) (fun   k _=>k .nilslice) (fun a  k _=>k (.map a)) (fun   k _=>k .nilmap) (fun a b c _ _ k _=>k (.fn a b c)) (fun   k _=>k .nilfn) (fun a  k _=>k (.yield a)) (fun a b _ k _=>k (.iface a b)) (fun   k _=>k .niliface) (fun _ _ _ e=>e) (fun _ _ _ e=>e) (fun  _ e=>e) () (fun _ _ _ _=>()) v k e
theorem scal1_eq (v:AV) (k:AV→Option RT) (e:Option RT):scal1 v k e=if scal v=true then k v else e:=by cases v <;> rfl
def setX (l:List AV) (i:Nat) (x:AV) (k:List AV→Option RT):Option RT:=List.rec (motive:=fun _=>Nat→(List AV→Option RT)→Option RT) (fun _ _=>none) (fun a l ih i k=>Nat.rec (motive:=fun _=>Option RT) (k (x :: l)) (fun i _=>ih i fun r=>k (a :: r)) i) l i k
theorem setX_eq:∀ (l:List AV) (i:Nat) (x:AV) (k:List AV→Option RT),setX l i x k=if i<l.length then k (l.set i x) else none
  | [],i,x,k=>by simp [setX]
  | a :: l,0,x,k=>by rw [if_pos (by simp)];rfl
  | a :: l,i+1,x,k=>by
    show setX l i x (fun r=>k (a :: r))=_
    rw [setX_eq l i x]
    by_cases h:i<l.length <;> simp [h]
def rStore (a:AOpd) (n:Nat) (x:AOpd):Op1:=fun t tr s K=>Bool.rec (motive:=fun _=>Option RT) (kStore a n x t tr s K)
  (mPtr (evQ t a) (fun id off=>scal1 (evQ t x) (fun v=>yes (Nat.ble (Nat.succ id) s) (mCells (getT tr id) fun cs own=>yes own (setX cs off v fun c=>setT tr id (.cells c true) fun tr'=>K (.tuple []) tr' s) none) none) (kStore a n x t tr s K)) none) (Nat.beq n 1)
theorem splice_one {cs:List AV} {off:Nat} {v:AV} (h:off<cs.length):splice cs off [v]=cs.set off v:=by
  unfold splice
  rw [List.set_eq_take_append_cons_drop]
  simp [h]
theorem rStore_eq (a:AOpd) (n:Nat) (x:AOpd) (t:Tm) (tr:Tr) (s:Nat) (K:Kt):rStore a n x t tr s K=kStore a n x t tr s K:=by
  unfold rStore
  cases hn:Nat.beq n 1 with
  | false=>rfl
  | true =>
    have hn:n=1:=Nat.eq_of_beq_eq_true hn
    subst hn
    simp only [scal1_eq]
    unfold kStore
    cases hv:evQ t a <;> try rfl
    rename_i id off
    show (if scal (evQ t x)=true then _ else _)=cellsQ (evQ t x) _
    split
    · rename_i hs
      have hc:cellsQ (evQ t x)=fun k:List AV→Option RT=>k [evQ t x]:=by
        funext k
        revert hs
        cases evQ t x <;> intro hs <;> first|rfl|cases hs
      rw [hc]
      simp only [lenR,Nat.beq,yes,allR,scalQ_eq,hs]
      show _=wrtQ tr s id off [evQ t x] fun tr'=>K (.tuple []) tr' s
      unfold wrtQ
      cases Nat.ble id.succ s with
      | false=>rfl
      | true =>
        simp only [yes]
        cases getT tr id with
        | cells cs own =>
          cases own with
          | false=>rfl
          | true =>
            show setX cs off (evQ t x) _=yes (Nat.ble (Nat.add off (lenR [evQ t x])) (lenR cs)) (spliceR cs off [evQ t x] _) none
            rw [setX_eq,yes_eq,spliceR_eq]
            simp only [lenR_eq,Nat.ble_eq]
            show _=if off+1≤cs.length then _ else none
            by_cases h:off<cs.length
            · rw [if_pos h,if_pos (show off+1≤cs.length from h),splice_one h]
            · rw [if_neg h,if_neg (show ¬ off+1≤cs.length from h)]
        | _=>rfl
    · rfl
def rCallV (f:AOpd) (args:List AOpd) (call:CallT) (yl:YlT):Op1:=fun t tr s K =>
  mFn (evQ t f) (fun g first caps=>fnNo g fun g=>evsC t args fun as=>appR as caps fun bs=>appR first bs fun cs=>outQ (call g cs tr s) K) (mYield (evQ t f) (fun id=>evsC t args fun as=>outQ (yl id as tr s) K) none)
def opC (call:CallT) (yl:YlT) (o:AOp):Bx (Op1):=AOp.rec (motive:=fun _=>Bx (Op1)) (fun a=>⟨rMov a⟩) (fun a b c=>⟨rPick a b c⟩) (fun a=>⟨qAlloc a⟩) (fun a=>⟨qBox a⟩) (fun a b=>⟨qBuild a b⟩) (fun a b c d=>⟨qBuildSlice a b c d⟩) (fun a=>⟨rLoad1 a⟩) (fun a b=>⟨qLoadN a b⟩) (fun a b c=>⟨rStore a b c⟩) (fun a=>⟨fxQ (.nilCheck a)⟩) (fun op x y=>⟨(binB op).f x y call yl⟩) (fun a b c d=>⟨fxQ (.eqCells a b c d)⟩) (fun a=>⟨fxQ (.neg a)⟩) (fun a=>⟨qNot a⟩) (fun a b=>⟨fxQ (.conv a b)⟩) (fun a b c=>⟨rMkfn a b c⟩) (fun a b=>⟨qFieldAddr a b⟩) (fun a b=>⟨rField1 a b⟩) (fun a b c=>⟨qFieldN a b c⟩) (fun a b c=>⟨qIdxSl a b c⟩) (fun a b c d=>⟨qIdxArr a b c d⟩) (fun a b c=>⟨fxQ (.index1 a b c)⟩) (fun a b c d=>⟨qIndexN a b c d⟩) (fun a b c d=>⟨fxQ (.slice a b c d)⟩) (fun a b c d e=>⟨fxQ (.slice3 a b c d e)⟩) (fun a b=>⟨rExtract a b⟩) (fun a=>⟨qLen a⟩) (fun a=>⟨fxQ (.lenS a)⟩) (fun a b c d=>⟨kAppend a b c d⟩) (fun a b=>⟨fxQ (.min2 a b)⟩) (fun a b=>⟨fxQ (.max2 a b)⟩) (fun a b c d=>⟨fxQ (.eqv a b c d)⟩) (fun a b c=>⟨fxQ (.shift a b c)⟩) (fun a=>⟨fxQ (.capS a)⟩) (fun a b=>⟨fxQ (.sIdx a b)⟩) (fun a b c=>⟨fxQ (.sSlice a b c)⟩) (fun a b c d e=>⟨fxQ (.makeSl a b c d e)⟩) ⟨fxQ .makeMap⟩ (fun a b c d e=>⟨fxQ (.mapGet a b c d e)⟩) (fun a b c d=>⟨fxQ (.mapPut a b c d)⟩) (fun a b c=>⟨fxQ (.mapDel a b c)⟩) (fun a=>⟨fxQ (.mapClear a)⟩) (fun a=>⟨fxQ (.lenM a)⟩) (fun a=>⟨fxQ (.rangeM a)⟩) (fun a=>⟨fxQ (.nextM a)⟩) (fun a=>⟨fxQ (.entryM a)⟩) ⟨fxQ .bad⟩ (fun f args=>⟨fun t tr s K=>evsC t args fun as=>outQ (call f as tr s) K⟩) (fun f args=>⟨rCallV f args call yl⟩) (fun a b c d e=>⟨fxQ (.appZ a b c d e)⟩) o
theorem opC_eq (call:CallT) (yl:YlT) (o:AOp):(opC   call yl o).f=(opB o).f call yl:=by
  cases o
  case mov x=>funext t tr s K;show K (evQ t x) tr s=wQ (evQ t x) fun v=>K v tr s;rw [wQ_eq]
  case pick c a b =>
    funext t tr s K
    show mBool (evQ t c) _ none=mBool (evQ t c) _ none
    simp only [wQ_eq]
  case load1 a =>
    funext t tr s K
    show mPtr (evQ t a) (fun id off=>rd1C tr s id off fun v=>K v tr s) none=mPtr (evQ t a) (fun id off=>rd1Q tr s id off fun v=>K v tr s) none
    simp only [rd1C_eq]
  case store a n x=>funext t tr s K;exact rStore_eq a n x t tr s K
  case mkfn f a b =>
    funext t tr s K
    show (evsC t a fun a=>evsC t b fun b=>K (.fn f a b) tr s)=evsQ t a fun a=>evsQ t b fun b=>K (.fn f a b) tr s
    simp only [evsC_eq]
  case field1 x off =>
    funext t tr s K
    show mAgg (evQ t x) (fun cs=>mTwo (getR cs off) fun v=>K v tr s) none=mAgg (evQ t x) (fun cs=>mOne (getR cs off) fun v=>K v tr s) none
    simp only [mTwo_eq]
  case extract x i =>
    funext t tr s K
    show mTuple (evQ t x) (fun cs=>mTwo (getR cs i) fun v=>K v tr s) none=mTuple (evQ t x) (fun cs=>mOne (getR cs i) fun v=>K v tr s) none
    simp only [mTwo_eq]
  case callF f args =>
    funext t tr s K
    show (evsC t args fun as=>outQ (call f as tr s) K)=evsQ t args fun as=>outQ (call f as tr s) K
    rw [evsC_eq]
  case callV f args =>
    funext t tr s K
    show rCallV f args call yl t tr s K=qCallV f args call yl t tr s K
    simp only [rCallV,qCallV,evsC_eq]
  all_goals rfl
def stepC (g:Option (Nat × Bool)) (d:Option Nat) (q:Bx (Op1)) (ih:Bx (OsQ)):Bx (OsQ) :=
  Option.rec (motive:=fun _=>Bx (OsQ))
    (Option.rec (motive:=fun _=>Bx (OsQ)) ⟨fun t tr s K=>q.f t tr s fun _ tr' s'=>ih.f t tr' s' K⟩ (fun d=>⟨fun t tr s K=>q.f t tr s fun v tr' s'=>ih.f ((d,v) :: t) tr' s' K⟩) d)
    (fun p=>⟨(guardB (some p)).f ((dstB d).f q.f ih.f) ((skipB d).f ih.f)⟩) g
theorem stepC_eq (g:Option (Nat × Bool)) (d:Option Nat) (q:Bx (Op1)) (ih:Bx (OsQ)):(stepC g d q ih).f=(guardB g).f ((dstB d).f q.f ih.f) ((skipB d).f ih.f):=by
  cases g with
  | none=>cases d <;> rfl
  | some p=>rfl
def opsC (call:CallT) (yl:YlT) (l:List AO):Bx (OsQ) :=
  List.rec (motive:=fun _=>Bx (OsQ)) ⟨fun t tr s K=>K t tr s⟩ (fun o _ ih=>stepC o.guard o.dst (opC call yl o.op) ih) l
theorem opsC_eq (call:CallT) (yl:YlT):∀ l:List AO,(opsC   call yl l).f=(opsB l).f call yl
  | []=>rfl
  | o :: os=>by
    show (stepC o.guard o.dst (opC call yl o.op) (opsC call yl os)).f=(guardB o.guard).f ((dstB o.dst).f ((opB o.op).f call yl) ((opsB os).f call yl)) ((skipB o.dst).f ((opsB os).f call yl))
    rw [stepC_eq,opC_eq,opsC_eq call yl os]
abbrev GQ:=Bx (Op1)→List Nat→List Nat→Nat→Option Nat→AOp→DQ→DQ
def g0:GQ:=fun q _ _ _ d _ ih past rds t tr s K=>q.f t tr s fun v _ _=>putQ d v t fun t=>ih past rds t tr s K
def g1:GQ:=fun q ps _ i d o ih past rds t tr s K=>q.f t tr s fun v _ _=>yes (pastQ ps o t v past) (putQ d v t fun t'=>ih past (⟨i,o,t,v⟩ :: rds) t' tr s K) none
def g2:GQ:=fun q ps sl i d _ ih past rds t tr s K=>q.f t tr s fun v tr' s'=>yes (scopQ sl t s) (yes (recQ ps tr' s' rds) (putQ d v t fun t'=>ih ((i,tr,s) :: past) (filterR (fun r=>!memR r.at_ ps) rds) t' tr' s' K) none) none
def g3:GQ:=fun q ps sl i d _ ih past rds t tr s K=>q.f t tr s fun v tr' s'=>yes (scopQ sl t s) (yes (Nat.ble s s') (yes (recQ ps tr' s' rds) (putQ d v t fun t'=>ih ((i,tr,s) :: past) (filterR (fun r=>!memR r.at_ ps) rds) t' tr' s' K) none) none) none
def clsC (o:AOp):GQ:=AOp.rec (motive:=fun _=>GQ) (fun _=>g0) (fun _ _ _=>g0) (fun _=>g2) (fun _=>g2) (fun _ _=>g0) (fun _ _ _ _=>g2) (fun _=>g1) (fun _ _=>g1) (fun _ _ _=>g3) (fun _=>g0) (fun _ _ _=>g0) (fun _ _ _ _=>g0) (fun _=>g0) (fun _=>g0) (fun _ _=>g0) (fun _ _ _=>g0) (fun _ _=>g0) (fun _ _=>g0) (fun _ _ _=>g0) (fun _ _ _=>g0) (fun _ _ _ _=>g0) (fun _ _ _=>g0) (fun _ _ _ _=>g0) (fun _ _ _ _=>g0) (fun _ _ _ _ _=>g0) (fun _ _=>g0) (fun _=>g0) (fun _=>g0) (fun _ _ _ _=>g3) (fun _ _=>g0) (fun _ _=>g0) (fun _ _ _ _=>g0) (fun _ _ _=>g0) (fun _=>g0) (fun _ _=>g0) (fun _ _ _=>g0) (fun _ _ _ _ _=>g2) g2 (fun _ _ _ _ _=>g1) (fun _ _ _ _=>g3) (fun _ _ _=>g3) (fun _=>g3) (fun _=>g1) (fun _=>g3) (fun _=>g3) (fun _=>g1) g0 (fun _ _=>g3) (fun _ _=>g3) (fun _ _ _ _ _=>g3) o
theorem clsC_eq (call:CallT) (yl:YlT) (o:AOp) (ps:List Nat) (i:Nat) (d:Option Nat) (ih:DQ):clsC   o (opC call yl o) ps o.slots i d o ih=(clsB o).f call yl ps i d o ih:=by
  have h1:clsC   o=match o.cls with|0=>g0|1=>g1|2=>g2|_=>g3:=by cases o <;> rfl
  rw [h1,clsB_eq]
  rcases o.cls with _|_|_|n <;> (funext past rds t tr s K;simp only [g0,g1,g2,g3,e0,e1,e2,e3,opC_eq])
def drawC (call:CallT) (yl:YlT) (ps:List (List Nat)) (l:List AO):Nat→Bx (DQ) :=
  List.rec (motive:=fun _=>Nat→Bx (DQ)) (fun _=>⟨fun _ _ t tr s K=>K t tr s⟩)
    (fun o _ ih i=>⟨fun past rds=>(guardB o.guard).f (clsC o.op (opC call yl o.op) (prB ps i).f (slotsB o.op).f i o.dst o.op (ih (Nat.succ i)).f past rds) ((skipB o.dst).f ((ih (Nat.succ i)).f past rds))⟩) l
theorem drawC_eq (call:CallT) (yl:YlT) (ps:List (List Nat)):∀ (l:List AO) (i:Nat),(drawC   call yl ps l i).f=(drawB ps l i).f call yl
  | [],_=>rfl
  | o :: os,i=>by
    funext past rds
    show (guardB o.guard).f (clsC o.op (opC call yl o.op) (prB ps i).f o.op.slots i o.dst o.op (drawC call yl ps os (Nat.succ i)).f past rds) ((skipB o.dst).f ((drawC call yl ps os (Nat.succ i)).f past rds))=(guardB o.guard).f ((clsB o.op).f call yl (prB ps i).f i o.dst o.op ((drawB ps os (Nat.succ i)).f call yl) past rds) ((skipB o.dst).f ((drawB ps os (Nat.succ i)).f call yl past rds))
    rw [drawC_eq call yl ps os,clsC_eq]
def rfC (call:CallT) (f:AOpd) (ps:List Nat) (a b:AC):OsE:=fun t tr s K=>rfQ f ps a b call (fun _ _ _ _=>none) 0 t tr s K
def codeC (call:CallT) (yl:YlT) (n:Nat) (c:AC):Bx (OsE) :=
  AC.rec (motive:=fun _=>Bx (OsE))
    ⟨fun t tr s K=>K .normal t tr s⟩
    (fun l live=>⟨fun t tr s K=>(opsC call yl l).f t tr s fun t tr s=>(liveB live).f t tr s K⟩)
    (fun l ps live=>⟨fun t tr s K=>(drawC call yl ps l 0).f [] [] t tr s fun t tr s=>(liveB live).f t tr s K⟩)
    (fun _ _ ia ib=>⟨fun t tr s K=>ia.f t tr s fun e t tr s=>exK e (ib.f t tr s K) fun e=>K e t tr s⟩)
    (fun c _ _ ia ib=>⟨fun t tr s K=>mBool (evQ t c) (fun b=>Bool.rec (motive:=fun _=>OsE) ib.f ia.f b t tr s K) none⟩)
    (fun id _ ia=>⟨fun t tr s K=>ia.f t tr s (blockK id K)⟩)
    (fun _ ia=>⟨fun t tr s K=>loopQ ia.f n t tr s K⟩)
    (fun _ ia=>⟨fun t tr s K=>ia.f t tr s (scopeQ K)⟩)
    (fun id=>⟨fun t tr s K=>K (.exit id) t tr s⟩)
    ⟨fun t tr s K=>K .ret t tr s⟩
    (fun f ps a b _ _=>⟨rfC call f ps a b⟩)
    ⟨fun _ _ _ _=>none⟩ c
theorem codeC_eq (call:CallT) (yl:YlT) (n:Nat):∀ (c:AC),(codeC   call yl n c).f=(codeB c).f call yl n:=by
  intro c
  induction c with
  | ops l live =>
    funext t tr s K
    show ((opsC call yl l).f t tr s fun t tr s=>(liveB live).f t tr s K)=((opsB l).f call yl t tr s fun t tr s=>(liveB live).f t tr s K)
    rw [opsC_eq]
  | draw l ps live =>
    funext t tr s K
    show ((drawC call yl ps l 0).f [] [] t tr s fun t tr s=>(liveB live).f t tr s K)=((drawB ps l 0).f call yl [] [] t tr s fun t tr s=>(liveB live).f t tr s K)
    rw [drawC_eq]
  | seq a b iha ihb =>
    funext t tr s K
    show ((codeC call yl n a).f t tr s fun e t tr s=>exK e ((codeC call yl n b).f t tr s K) fun e=>K e t tr s)=((codeB a).f call yl n t tr s fun e t tr s=>exK e ((codeB b).f call yl n t tr s K) fun e=>K e t tr s)
    rw [iha,ihb]
  | cond c a b iha ihb =>
    funext t tr s K
    show mBool (evQ t c) (fun x=>Bool.rec (motive:=fun _=>OsE) (codeC call yl n b).f (codeC call yl n a).f x t tr s K) none=mBool (evQ t c) (fun x=>Bool.rec (motive:=fun _=>CQ) (codeB b).f (codeB a).f x call yl n t tr s K) none
    rw [iha,ihb]
    congr 1
    funext x
    cases x <;> rfl
  | block id a ih =>
    funext t tr s K
    show (codeC call yl n a).f t tr s (blockK id K)=(codeB a).f call yl n t tr s (blockK id K)
    rw [ih]
  | loop a ih =>
    funext t tr s K
    show loopQ (codeC call yl n a).f n t tr s K=loopQ ((codeB a).f call yl n) n t tr s K
    rw [ih]
  | scope a ih =>
    funext t tr s K
    show (codeC call yl n a).f t tr s (scopeQ K)=(codeB a).f call yl n t tr s (scopeQ K)
    rw [ih]
  | _=>rfl
def funC (call:CallT) (yl:YlT) (n:Nat) (e:Option Ent):Bx (List AV→Tr→Nat→Option (AV × Tr × Nat)):=Option.rec (motive:=fun _=>Bx (List AV→Tr→Nat→Option (AV × Tr × Nat))) ⟨fun _ _ _=>none⟩
  (fun e=>⟨fun args tr s=>yes (Nat.beq (lenR args) e.n) (argsQ args 0 fun t=>(codeC call yl n e.ac).f t tr s (leaveQ e.rs)) none⟩) e
theorem funC_eq (call:CallT) (yl:YlT) (n:Nat) (e:Option Ent):(funC call yl n e).f=(funB e).f call yl n:=by
  cases e with
  | none=>rfl
  | some e =>
    funext args tr s
    show yes _ (argsQ args 0 fun t=>(codeC call yl n e.ac).f t tr s (leaveQ e.rs)) none=yes _ (argsQ args 0 fun t=>(codeB e.ac).f call yl n t tr s (leaveQ e.rs)) none
    rw [codeC_eq]
def roundC (call:CallT) (yl:YlT) (n:Nat) (id:Nat) (args:List AV) (tr:Tr) (s:Nat):Option (AV × Tr × Nat) :=
  yes (Nat.ble (Nat.succ id) s) (mLoop (getT tr id) fun t ps a b ph=>Phase.rec (motive:=fun _=>Option (AV × Tr × Nat))
    (yes (Nat.beq (lenR args) (lenR ps)) (roundTQ ps args t fun t=>(codeC call yl n a).f t tr s fun e t1 tr1 s1=>exK e
      (yes (Nat.ble (Nat.succ id) s1) (mLoop (getT tr1 id) fun t0 ps1 a1 b1 ph=>Phase.rec (motive:=fun _=>Option (AV × Tr × Nat)) (setT tr1 id (.other (.loop t0 ps1 a1 b1 .busy)) fun tr1=>(codeC call yl n b).f t1 tr1 s1 (rLeave id)) none (fun _=>none) ph) none) fun _=>none) none) none (fun _=>none) ph) none
theorem roundC_eq (call:CallT) (yl:YlT) (n:Nat):roundC call yl n=roundB call yl n:=by
  funext id args tr s
  unfold roundC roundB
  simp only [codeC_eq]
end
def goC (T:ETr) (n:Nat):CallT × YlT :=
  Nat.rec (motive:=fun _=>CallT × YlT) (fun _ _ _ _=>none,fun _ _ _ _=>none) (fun n ih=>(fun f args tr s=>(funC ih.1 ih.2 n (getE T f)).f args tr s,roundC ih.1 ih.2 n)) n
theorem goC_eq (T:ETr):∀ n,goC T n=goB T n
  | 0=>rfl
  | n+1=>by
    show ((fun f args tr s=>(funC (goC T n).1 (goC T n).2 n (getE T f)).f args tr s,roundC (goC T n).1 (goC T n).2 n):CallT × YlT)=(fun f args tr s=>(funB (getE T f)).f (goB T n).1 (goB T n).2 n args tr s,roundB (goB T n).1 (goB T n).2 n)
    rw [goC_eq T n]
    simp only [funC_eq,roundC_eq]
end Go.Abs
end
