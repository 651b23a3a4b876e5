/- The abstract machine, run for the kernel: eliminations whose cases are closed terms. -/
import Derived.Test.YtdocpfbfchaekaaGreatA30
noncomputable section
namespace Go.Abs
open Go.RowKit
universe u
section
def mBool (v:AV) (k:Bool→Option RT) (e:Option RT):Option RT :=
  AV.rec (motive_1:=fun _=>(Bool→Option RT)→Option RT→Option RT) (motive_2:=fun _=>Unit) (fun b k _=>k b) (fun _ _ _ e=>e) (fun _ _ e=>e) (fun _ _ _ e=>e) (fun _ e=>e) (fun _ _ _ _ _ _ e=>e) (fun _ e=>e) (fun _ _ e=>e) (fun _ e=>e) (fun _ _ _ _ _ _ e=>e) (fun _ e=>e) (fun _ _ e=>e) (fun _ _ _ _ e=>e) (fun _ e=>e) (fun _ _ _ e=>e) (fun _ _ _ e=>e) (fun _ e=>e) () (fun _ _ _ _=>()) v k e
def mInt (v:AV) (k:IntKind→Int→Option RT) (e:Option RT):Option RT :=
  AV.rec (motive_1:=fun _=>(IntKind→Int→Option RT)→Option RT→Option RT) (motive_2:=fun _=>Unit) (fun _ _ e=>e) (fun q n k _=>k q n) (fun _ _ e=>e) (fun _ _ _ e=>e) (fun _ e=>e) (fun _ _ _ _ _ _ e=>e) (fun _ e=>e) (fun _ _ e=>e) (fun _ e=>e) (fun _ _ _ _ _ _ e=>e) (fun _ e=>e) (fun _ _ e=>e) (fun _ _ _ _ e=>e) (fun _ e=>e) (fun _ _ _ e=>e) (fun _ _ _ e=>e) (fun _ e=>e) () (fun _ _ _ _=>()) v k e
def mPtr (v:AV) (k:Nat→Nat→Option RT) (e:Option RT):Option RT :=
  AV.rec (motive_1:=fun _=>(Nat→Nat→Option RT)→Option RT→Option RT) (motive_2:=fun _=>Unit) (fun _ _ e=>e) (fun _ _ _ e=>e) (fun _ _ e=>e) (fun i o k _=>k i o) (fun _ e=>e) (fun _ _ _ _ _ _ e=>e) (fun _ e=>e) (fun _ _ e=>e) (fun _ e=>e) (fun _ _ _ _ _ _ e=>e) (fun _ e=>e) (fun _ _ e=>e) (fun _ _ _ _ e=>e) (fun _ e=>e) (fun _ _ _ e=>e) (fun _ _ _ e=>e) (fun _ e=>e) () (fun _ _ _ _=>()) v k e
def mSlice (v:AV) (k:Nat→Nat→Nat→Nat→Bool→Option RT) (e:Option RT):Option RT :=
  AV.rec (motive_1:=fun _=>(Nat→Nat→Nat→Nat→Bool→Option RT)→Option RT→Option RT) (motive_2:=fun _=>Unit) (fun _ _ e=>e) (fun _ _ _ e=>e) (fun _ _ e=>e) (fun _ _ _ e=>e) (fun _ e=>e) (fun i o l s x k _=>k i o l s x) (fun _ e=>e) (fun _ _ e=>e) (fun _ e=>e) (fun _ _ _ _ _ _ e=>e) (fun _ e=>e) (fun _ _ e=>e) (fun _ _ _ _ e=>e) (fun _ e=>e) (fun _ _ _ e=>e) (fun _ _ _ e=>e) (fun _ e=>e) () (fun _ _ _ _=>()) v k e
def mMap (v:AV) (k:Nat→Option RT) (e:Option RT):Option RT :=
  AV.rec (motive_1:=fun _=>(Nat→Option RT)→Option RT→Option RT) (motive_2:=fun _=>Unit) (fun _ _ e=>e) (fun _ _ _ e=>e) (fun _ _ e=>e) (fun _ _ _ e=>e) (fun _ e=>e) (fun _ _ _ _ _ _ e=>e) (fun _ e=>e) (fun i k _=>k i) (fun _ e=>e) (fun _ _ _ _ _ _ e=>e) (fun _ e=>e) (fun _ _ e=>e) (fun _ _ _ _ e=>e) (fun _ e=>e) (fun _ _ _ e=>e) (fun _ _ _ e=>e) (fun _ e=>e) () (fun _ _ _ _=>()) v k e
def mFn (v:AV) (k:Fn→List AV→List AV→Option RT) (e:Option RT):Option RT :=
  AV.rec (motive_1:=fun _=>(Fn→List AV→List AV→Option RT)→Option RT→Option RT) (motive_2:=fun _=>Unit) (fun _ _ e=>e) (fun _ _ _ e=>e) (fun _ _ e=>e) (fun _ _ _ e=>e) (fun _ e=>e) (fun _ _ _ _ _ _ e=>e) (fun _ e=>e) (fun _ _ e=>e) (fun _ e=>e) (fun f a b _ _ k _=>k f a b) (fun _ e=>e) (fun _ _ e=>e) (fun _ _ _ _ e=>e) (fun _ e=>e) (fun _ _ _ e=>e) (fun _ _ _ e=>e) (fun _ e=>e) () (fun _ _ _ _=>()) v k e
def mYield (v:AV) (k:Nat→Option RT) (e:Option RT):Option RT :=
  AV.rec (motive_1:=fun _=>(Nat→Option RT)→Option RT→Option RT) (motive_2:=fun _=>Unit) (fun _ _ e=>e) (fun _ _ _ e=>e) (fun _ _ e=>e) (fun _ _ _ e=>e) (fun _ e=>e) (fun _ _ _ _ _ _ e=>e) (fun _ e=>e) (fun _ _ e=>e) (fun _ e=>e) (fun _ _ _ _ _ _ e=>e) (fun _ e=>e) (fun i k _=>k i) (fun _ _ _ _ e=>e) (fun _ e=>e) (fun _ _ _ e=>e) (fun _ _ _ e=>e) (fun _ e=>e) () (fun _ _ _ _=>()) v k e
def mAgg (v:AV) (k:List AV→Option RT) (e:Option RT):Option RT :=
  AV.rec (motive_1:=fun _=>(List AV→Option RT)→Option RT→Option RT) (motive_2:=fun _=>Unit) (fun _ _ e=>e) (fun _ _ _ e=>e) (fun _ _ e=>e) (fun _ _ _ e=>e) (fun _ e=>e) (fun _ _ _ _ _ _ e=>e) (fun _ e=>e) (fun _ _ e=>e) (fun _ e=>e) (fun _ _ _ _ _ _ e=>e) (fun _ e=>e) (fun _ _ e=>e) (fun _ _ _ _ e=>e) (fun _ e=>e) (fun c _ k _=>k c) (fun _ _ _ e=>e) (fun _ e=>e) () (fun _ _ _ _=>()) v k e
def mTuple (v:AV) (k:List AV→Option RT) (e:Option RT):Option RT :=
  AV.rec (motive_1:=fun _=>(List AV→Option RT)→Option RT→Option RT) (motive_2:=fun _=>Unit) (fun _ _ e=>e) (fun _ _ _ e=>e) (fun _ _ e=>e) (fun _ _ _ e=>e) (fun _ e=>e) (fun _ _ _ _ _ _ e=>e) (fun _ e=>e) (fun _ _ e=>e) (fun _ e=>e) (fun _ _ _ _ _ _ e=>e) (fun _ e=>e) (fun _ _ e=>e) (fun _ _ _ _ e=>e) (fun _ e=>e) (fun _ _ _ e=>e) (fun c _ k _=>k c) (fun _ e=>e) () (fun _ _ _ _=>()) v k e
def mNilS (v:AV) (k:Option RT) (e:Option RT):Option RT :=
  AV.rec (motive_1:=fun _=>(Option RT)→Option RT→Option RT) (motive_2:=fun _=>Unit) (fun _ _ e=>e) (fun _ _ _ e=>e) (fun _ _ e=>e) (fun _ _ _ e=>e) (fun _ e=>e) (fun _ _ _ _ _ _ e=>e) (fun k _=>k ) (fun _ _ e=>e) (fun _ e=>e) (fun _ _ _ _ _ _ e=>e) (fun _ e=>e) (fun _ _ e=>e) (fun _ _ _ _ e=>e) (fun _ e=>e) (fun _ _ _ e=>e) (fun _ _ _ e=>e) (fun _ e=>e) () (fun _ _ _ _=>()) v k e
def mNilM (v:AV) (k:Option RT) (e:Option RT):Option RT :=
  AV.rec (motive_1:=fun _=>(Option RT)→Option RT→Option RT) (motive_2:=fun _=>Unit) (fun _ _ e=>e) (fun _ _ _ e=>e) (fun _ _ e=>e) (fun _ _ _ e=>e) (fun _ e=>e) (fun _ _ _ _ _ _ e=>e) (fun _ e=>e) (fun _ _ e=>e) (fun k _=>k ) (fun _ _ _ _ _ _ e=>e) (fun _ e=>e) (fun _ _ e=>e) (fun _ _ _ _ e=>e) (fun _ e=>e) (fun _ _ _ e=>e) (fun _ _ _ e=>e) (fun _ e=>e) () (fun _ _ _ _=>()) v k e
def wQ (v:AV) (k:AV→(Option RT)):(Option RT) :=
  AV.rec (motive_1:=fun _=>(AV→(Option RT))→(Option RT)) (motive_2:=fun _=>Unit) (fun b k=>k (.bool b)) (fun q n k=>k (.int q n)) (fun s k=>k (.str s)) (fun i o k=>k (.ptr i o)) (fun k=>k .nil) (fun i o l s x k=>k (.slice i o l s x)) (fun k=>k .nilslice) (fun i k=>k (.map i)) (fun k=>k .nilmap) (fun f a b _ _ k=>k (.fn f a b)) (fun k=>k .nilfn) (fun i k=>k (.yield i)) (fun t v _ k=>k (.iface t v)) (fun k=>k .niliface) (fun c _ k=>k (.agg c)) (fun c _ k=>k (.tuple c)) (fun k=>k .junk) () (fun _ _ _ _=>()) v k
theorem wQ_eq (v:AV) (k:AV→(Option RT)):wQ v k=k v:=by cases v <;> rfl
def cellsQ (v:AV) (k:List AV→Option RT):Option RT :=
  AV.rec (motive_1:=fun _=>(List AV→Option RT)→Option RT) (motive_2:=fun _=>Unit) (fun b k=>k [.bool b]) (fun q n k=>k [.int q n]) (fun s k=>k [.str s]) (fun i o k=>k [.ptr i o]) (fun k=>k [.nil]) (fun i o l s x k=>k [.slice i o l s x]) (fun k=>k [.nilslice]) (fun i k=>k [.map i]) (fun k=>k [.nilmap]) (fun f a b _ _ k=>k [.fn f a b]) (fun k=>k [.nilfn]) (fun i k=>k [.yield i]) (fun t v _ k=>k [.iface t v]) (fun k=>k [.niliface]) (fun c _ k=>k c) (fun c _ k=>k [.tuple c]) (fun _=>none) () (fun _ _ _ _=>()) v k
theorem cellsQ_eq (v:AV) (k:List AV→Option RT):cellsQ v k=cellsR v k:=by cases v <;> rfl
def evQ (t:Tm) (x:AOpd):AV:=AOpd.rec (motive:=fun _=>Tm→AV) (fun i t=>lkR t i) (fun v _=>v) x t
theorem evQ_eq (t:Tm):evQ t=evR t:=by funext x;cases x <;> rfl
def wrQ (k:IntKind) (n:Int) (K:Int→(Option RT)):(Option RT):=yes (Nat.beq (kno k) 3) (Int.rec (motive:=fun _=>(Option RT)) (fun m=>fN m fun m=>yes (Nat.ble m 9223372036854775807) (K (.ofNat m)) (fI (k.wrap (.ofNat m)) K)) (fun m=>fN m fun m=>yes (Nat.ble m 9223372036854775807) (K (.negSucc m)) (fI (k.wrap (.negSucc m)) K)) n) (fI (k.wrap n) K)
theorem wrap_i64 {n:Int} (h:-9223372036854775808≤n) (h':n≤9223372036854775807):IntKind.wrap .i64 n=n:=by
  have e1:(2:Int) ^ IntKind.i64.bits=18446744073709551616:=rfl
  have e2:(2:Int) ^ (IntKind.i64.bits-1)=9223372036854775808:=rfl
  simp only [IntKind.wrap,e1,e2,IntKind.signed,Bool.true_and,decide_eq_true_eq]
  split <;> omega
theorem wrQ_eq (k:IntKind) (n:Int) (K:Int→(Option RT)):wrQ k n K=K (k.wrap n):=by
  unfold wrQ
  rw [yes_eq]
  split
  · rename_i hk
    have hk:k=.i64:=by cases k <;> simp [kno] at hk ⊢
    subst hk
    cases n with
    | ofNat m =>
      simp only [fN_eq,yes_eq,fI_eq,Nat.ble_eq]
      split
      · rw [wrap_i64 (by simp only [Int.ofNat_eq_natCast];omega) (by simp only [Int.ofNat_eq_natCast];omega)]
      · rfl
    | negSucc m =>
      simp only [fN_eq,yes_eq,fI_eq,Nat.ble_eq]
      split
      · rw [wrap_i64 (by omega) (by omega)]
      · rfl
  · exact fI_eq _ _
def mCells (o:AObj) (k:List AV→Bool→Option RT):Option RT:=AObj.rec (motive:=fun _=>(List AV→Bool→Option RT)→Option RT) (fun vs own k=>k vs own) (fun _ _=>none) (fun _=>none) o k
def rdQ (tr:Tr) (s id off n:Nat) (k:List AV→Option RT):Option RT:=yes (Nat.ble (Nat.succ id) s) (mCells (getT tr id) fun vs _=>yes (Nat.ble (Nat.add off n) (lenR vs)) (takeR (dropR vs off) n k) none) none
theorem rdQ_eq (tr:Tr) (s id off n:Nat) (k:List AV→Option RT):rdQ tr s id off n k=rdT tr s id off n k:=by
  unfold rdQ rdT obT
  cases Nat.ble id.succ s with
  | false=>rfl
  | true=>cases getT tr id <;> rfl
def mOne (o:Option AV) (k:AV→Option RT):Option RT:=Option.rec (motive:=fun _=>(AV→Option RT)→Option RT) (fun _=>none) (fun v k=>wQ v k) o k
def rd1Q (tr:Tr) (s id off:Nat) (k:AV→Option RT):Option RT:=yes (Nat.ble (Nat.succ id) s) (mCells (getT tr id) fun vs _=>mOne (getR vs off) k) none
theorem rd1Q_eq (tr:Tr) (s id off:Nat) (k:AV→Option RT):rd1Q tr s id off k=rd1T tr s id off k:=by
  unfold rd1Q rd1T obT
  cases Nat.ble id.succ s with
  | false=>rfl
  | true =>
    cases getT tr id with
    | cells vs own =>
      show mOne (getR vs off) k=match getR vs off with|some v=>wV v k|none=>none
      cases getR vs off with
      | none=>rfl
      | some v=>show wQ v k=wV v k;rw [wQ_eq,wV_eq]
    | _=>rfl
def wrtQ (tr:Tr) (s id off:Nat) (vs:List AV) (k:Tr→Option RT):Option RT:=yes (Nat.ble (Nat.succ id) s) (mCells (getT tr id) fun cs own=>yes own (yes (Nat.ble (Nat.add off (lenR vs)) (lenR cs)) (spliceR cs off vs fun c=>setT tr id (.cells c true) k) none) none) none
theorem wrtQ_eq (tr:Tr) (s id off:Nat) (vs:List AV) (k:Tr→Option RT):wrtQ tr s id off vs k=wrT tr s id off vs k:=by
  unfold wrtQ wrT obT
  cases Nat.ble id.succ s with
  | false=>rfl
  | true =>
    cases getT tr id with
    | cells vs own=>cases own <;> rfl
    | _=>rfl
def slQ (tr:Tr) (s sz:Nat) (v:AV) (k:Nat→List AV→Option RT):Option RT:=mSlice v (fun id off len sz' _=>yes (Nat.beq sz' sz) (rdQ tr s id off (Nat.mul len sz) fun vs=>k len vs) none) (mNilS v (k 0 []) none)
theorem slQ_eq (tr:Tr) (s sz:Nat) (v:AV) (k:Nat→List AV→Option RT):slQ tr s sz v k=slT tr s sz v k:=by
  unfold slQ slT
  simp only [rdQ_eq]
  cases v <;> rfl
def fillQ (t:Tm) (ps:List (Nat × Nat × AOpd)):List AV→(List AV→Option RT)→Option RT :=
  List.rec (motive:=fun _=>List AV→(List AV→Option RT)→Option RT) (fun cs k=>k cs)
    (fun p _ ih cs k=>cellsQ (evQ t p.2.2) fun vs=>yes (Nat.beq (lenR vs) p.2.1) (yes (Nat.ble (Nat.add p.1 p.2.1) (lenR cs)) (spliceR cs p.1 vs fun cs=>ih cs k) none) none) ps
theorem fillQ_eq (t:Tm):∀ (ps:List (Nat × Nat × AOpd)) (cs:List AV) (k:List AV→Option RT),fillQ t ps cs k=fillR t ps cs k
  | [],cs,k=>rfl
  | p :: ps,cs,k=>by
    show (cellsQ (evQ t p.2.2) fun vs=>yes (Nat.beq (lenR vs) p.2.1) (yes (Nat.ble (Nat.add p.1 p.2.1) (lenR cs)) (spliceR cs p.1 vs fun cs=>fillQ t ps cs k) none) none)=(cellsR (evR t p.2.2) fun vs=>yes (Nat.beq (lenR vs) p.2.1) (yes (Nat.ble (p.1+p.2.1) (lenR cs)) (spliceR cs p.1 vs fun cs=>fillR t ps cs k) none) none)
    rw [cellsQ_eq,evQ_eq]
    simp only [fillQ_eq t ps]
    rfl
def evsQ (t:Tm) (xs:List AOpd):(List AV→(Option RT))→(Option RT):=List.rec (motive:=fun _=>(List AV→(Option RT))→(Option RT)) (fun k=>k []) (fun x _ ih k=>wQ (evQ t x) fun v=>ih fun r=>k (v :: r)) xs
theorem evsQ_eq (t:Tm):∀ (xs:List AOpd) (k:List AV→(Option RT)),evsQ t xs k=evsR t xs k
  | [],_=>rfl
  | x :: xs,k=>by
    show wQ (evQ t x) (fun v=>evsQ t xs fun r=>k (v :: r))=wV (evR t x) (fun v=>evsR t xs fun r=>k (v :: r))
    rw [wQ_eq,wV_eq,evQ_eq,evsQ_eq t xs]
def pruneQ (t:Tm) (ks:List Nat):(Tm→(Option RT))→(Option RT):=List.rec (motive:=fun _=>(Tm→(Option RT))→(Option RT)) (fun k=>k []) (fun i _ ih k=>wQ (lkR t i) fun v=>ih fun r=>k ((i,v) :: r)) ks
theorem pruneQ_eq (t:Tm):∀ (ks:List Nat) (k:Tm→(Option RT)),pruneQ t ks k=pruneR t ks k
  | [],_=>rfl
  | i :: ks,k=>by
    show wQ (lkR t i) (fun v=>pruneQ t ks fun r=>k ((i,v) :: r))=wV (lkR t i) (fun v=>pruneR t ks fun r=>k ((i,v) :: r))
    rw [wQ_eq,wV_eq,pruneQ_eq t ks]
def isNil (ks:List CK):Bool:=List.rec (motive:=fun _=>Bool) true (fun _ _ _=>false) ks
/-! ### Operations,each by itself -/
abbrev Op1:=Tm→Tr→Nat→Kt→Option RT
def qSlow (o:AOp):Op1:=fun t tr s K=>slowT o t tr s K
def qMov (x:AOpd):Op1:=fun t tr s K=>wQ (evQ t x) fun v=>K v tr s
def qPick (c a b:AOpd):Op1:=fun t tr s K=>mBool (evQ t c) (fun x=>wQ (evQ t (Bool.rec (motive:=fun _=>AOpd) b a x)) fun v=>K v tr s) none
def qAlloc (zs:List AV):Op1:=fun _ tr s K=>newT zs tr s fun tr' s'=>K (.ptr s 0) tr' s'
def qBox (x:AOpd):Op1:=fun t tr s K=>cellsQ (evQ t x) fun cs=>newT cs tr s fun tr' s'=>K (.ptr s 0) tr' s'
def qBuild (zs:List AV) (ps:List (Nat × Nat × AOpd)):Op1:=fun t tr s K=>fillQ t ps zs fun cs=>K (.agg cs) tr s
def qBuildSlice (zs:List AV) (ps:List (Nat × Nat × AOpd)) (ln sz:Nat):Op1:=fun t tr s K=>fillQ t ps zs fun cs=>newT cs tr s fun tr' s'=>K (.slice s 0 ln sz true) tr' s'
def qLoad1 (a:AOpd):Op1:=fun t tr s K=>mPtr (evQ t a) (fun id off=>rd1Q tr s id off fun v=>K v tr s) none
def qLoadN (a:AOpd) (n:Nat):Op1:=fun t tr s K=>mPtr (evQ t a) (fun id off=>rdQ tr s id off n fun vs=>K (.agg vs) tr s) none
def qStore (a:AOpd) (n:Nat) (x:AOpd):Op1:=fun t tr s K=>mPtr (evQ t a) (fun id off=>cellsQ (evQ t x) fun vs=>yes (Nat.beq (lenR vs) n) (yes (allR scal vs) (wrtQ tr s id off vs fun tr'=>K (.tuple []) tr' s) none) none) none
def qInts (o:AOp) (x y:AOpd) (f:IntKind→Int→Int→(AV→Option RT)→Option RT):Op1:=fun t tr s K=>mInt (evQ t x) (fun q a=>mInt (evQ t y) (fun q' b=>yes (keq q q') (f q a b fun v=>K v tr s) none) none) (slowT o t tr s K)
def qAdd (x y:AOpd):Op1:=qInts (.bin .add x y) x y fun q a b k=>wrQ q (Int.add a b) fun n=>k (.int q n)
def qSub (x y:AOpd):Op1:=qInts (.bin .sub x y) x y fun q a b k=>wrQ q (Int.sub a b) fun n=>k (.int q n)
def qMul (x y:AOpd):Op1:=qInts (.bin .mul x y) x y fun q a b k=>wrQ q (Int.mul a b) fun n=>k (.int q n)
def qEql (x y:AOpd):Op1:=qInts (.bin .eql x y) x y fun _ a b k=>fB (ieq a b) fun r=>k (.bool r)
def qNeq (x y:AOpd):Op1:=qInts (.bin .neq x y) x y fun _ a b k=>fB (ieq a b) fun r=>k (.bool (Bool.not r))
def qLss (x y:AOpd):Op1:=qInts (.bin .lss x y) x y fun _ a b k=>fB (ile b a) fun r=>k (.bool (Bool.not r))
def qLeq (x y:AOpd):Op1:=qInts (.bin .leq x y) x y fun _ a b k=>fB (ile a b) fun r=>k (.bool r)
def qGtr (x y:AOpd):Op1:=qInts (.bin .gtr x y) x y fun _ a b k=>fB (ile a b) fun r=>k (.bool (Bool.not r))
def qGeq (x y:AOpd):Op1:=qInts (.bin .geq x y) x y fun _ a b k=>fB (ile b a) fun r=>k (.bool r)
def qBin (op:BinOp):AOpd→AOpd→Op1:=BinOp.rec (motive:=fun _=>AOpd→AOpd→Op1) qAdd qSub qMul (fun x y=>qSlow (.bin .quo x y)) (fun x y=>qSlow (.bin .rem x y)) (fun x y=>fxT (.bin .and x y)) (fun x y=>fxT (.bin .or x y)) (fun x y=>fxT (.bin .xor x y)) (fun x y=>fxT (.bin .shl x y)) (fun x y=>fxT (.bin .shr x y)) (fun x y=>fxT (.bin .andNot x y)) qEql qNeq qLss qLeq qGtr qGeq op
def qNot (x:AOpd):Op1:=fun t tr s K=>mBool (evQ t x) (fun b=>fB (Bool.not b) fun b=>K (.bool b) tr s) none
def qMkfn (f:Fn) (a b:List AOpd):Op1:=fun t tr s K=>evsQ t a fun a=>evsQ t b fun b=>K (.fn f a b) tr s
def qFieldAddr (x:AOpd) (off:Nat):Op1:=fun t tr s K=>mPtr (evQ t x) (fun id o=>fN (Nat.add o off) fun o=>K (.ptr id o) tr s) none
def qField1 (x:AOpd) (off:Nat):Op1:=fun t tr s K=>mAgg (evQ t x) (fun cs=>mOne (getR cs off) fun v=>K v tr s) none
def qFieldN (x:AOpd) (off n:Nat):Op1:=fun t tr s K=>mAgg (evQ t x) (fun cs=>takeR (dropR cs off) n fun cs=>K (.agg cs) tr s) none
def qIdxSl (x i:AOpd) (sz:Nat):Op1:=fun t tr s K=>mSlice (evQ t x) (fun id off ln sz' _=>mInt (evQ t i) (fun _ n=>yes (Nat.beq sz' sz) (yes (ile 0 n) (yes (Bool.not (ile (.ofNat ln) n)) (fN (Nat.add off (Nat.mul n.toNat sz)) fun o=>K (.ptr id o) tr s) none) none) none) none) none
def qIdxArr (x i:AOpd) (ln sz:Nat):Op1:=fun t tr s K=>mPtr (evQ t x) (fun id off=>mInt (evQ t i) (fun _ n=>yes (ile 0 n) (yes (Bool.not (ile (.ofNat ln) n)) (fN (Nat.add off (Nat.mul n.toNat sz)) fun o=>K (.ptr id o) tr s) none) none) none) none
def qIndexN (x i:AOpd) (ln sz:Nat):Op1:=fun t tr s K=>mAgg (evQ t x) (fun cs=>mInt (evQ t i) (fun _ n=>yes (ile 0 n) (yes (Bool.not (ile (.ofNat ln) n)) (takeR (dropR cs (Nat.mul n.toNat sz)) sz fun cs=>K (.agg cs) tr s) none) none) none) none
def qExtract (x:AOpd) (i:Nat):Op1:=fun t tr s K=>mTuple (evQ t x) (fun vs=>mOne (getR vs i) fun v=>K v tr s) none
def qLen (x:AOpd):Op1:=fun t tr s K=>mSlice (evQ t x) (fun _ _ ln _ _=>K (.int .i64 (.ofNat ln)) tr s) (mNilS (evQ t x) (K (.int .i64 (.ofNat 0)) tr s) none)
def qAppend (x y:AOpd) (sz bytes:Nat):Op1:=fun t tr s K=>slQ tr s sz (evQ t x) fun n old=>slQ tr s sz (evQ t y) fun m new=>yes (allR scal new) (yes (Nat.ble (Nat.mul (Nat.add n m) bytes) 140737488355328)
  (mSlice (evQ t x) (fun id off _ _ _=>yes (Nat.ble (Nat.succ id) s) (mCells (getT tr id) fun _ own=>yes own (yes (Nat.beq off 0) (fN (Nat.add n m) fun l=>appR old new fun cs=>setT tr id .dead fun tr=>newT cs tr s fun tr' s'=>K (.slice s 0 l sz false) tr' s') none) none) none)
    (mNilS (evQ t x) (fN m fun m=>newT new tr s fun tr' s'=>K (.slice s 0 m sz false) tr' s') none)) none) none
def qMapGet (ok:Bool) (z:AV) (k:KK) (m i:AOpd):Op1:=fun t tr s K=>fxT (.mapGet ok z k m i) t tr s K
def fxQ (o:AOp):Op1 :=
  AOp.rec (motive:=fun _=>Op1) qMov qPick qAlloc qBox qBuild qBuildSlice qLoad1 qLoadN qStore (fun x=>fxT (.nilCheck x)) qBin (fun a b c d=>qSlow (.eqCells a b c d)) (fun x=>qSlow (.neg x)) qNot (fun a b=>qSlow (.conv a b)) qMkfn qFieldAddr qField1 qFieldN qIdxSl qIdxArr
    (fun a b c=>qSlow (.index1 a b c)) qIndexN (fun a b c d=>qSlow (.slice a b c d)) (fun a b c d e=>qSlow (.slice3 a b c d e)) qExtract qLen (fun x=>qSlow (.lenS x)) qAppend (fun x y=>qSlow (.min2 x y)) (fun x y=>qSlow (.max2 x y)) (fun a b c d=>qSlow (.eqv a b c d)) (fun a b c=>qSlow (.shift a b c)) (fun x=>qSlow (.capS x)) (fun a b=>qSlow (.sIdx a b)) (fun a b c=>qSlow (.sSlice a b c))
    (fun a b c d e=>fxT (.makeSl a b c d e)) (fxT .makeMap) qMapGet (fun a b c d=>fxT (.mapPut a b c d)) (fun a b c=>fxT (.mapDel a b c)) (fun a=>fxT (.mapClear a)) (fun a=>fxT (.lenM a)) (fun a=>fxT (.rangeM a)) (fun a=>fxT (.nextM a)) (fun a=>fxT (.entryM a)) (fun _ _ _ _=>none) (fun _ _ _ _ _ _=>none) (fun _ _ _ _ _ _=>none) (fun a b c d e=>fxT (.appZ a b c d e)) o
end
end Go.Abs
end
