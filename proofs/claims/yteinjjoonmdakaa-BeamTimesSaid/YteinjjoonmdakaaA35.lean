/- The abstract machine, run for the kernel: the same, made ready for each depth of calls. -/
import Derived.Test.YteinjjoonmdakaaA34
set_option linter.unusedSimpArgs false
set_option linter.unusedVariables false
namespace Go.Abs
open Go.RowKit
universe u
section

noncomputable def rMov (x : AOpd) : Op1 := fun t tr s K => K (evQ t x) tr s
noncomputable def rPick (c a b : AOpd) : Op1 := fun t tr s K => mBool (evQ t c) (fun x => K (evQ t (Bool.rec (motive := fun _ => AOpd) b a x)) tr s) none
noncomputable def mTwo (o : Option AV) (k : AV → Option RT) : Option RT := Option.rec (motive := fun _ => (AV → Option RT) → Option RT) (fun _ => none) (fun v k => k v) o k
noncomputable def rd1C (tr : Tr) (s id off : Nat) (k : AV → Option RT) : Option RT := yes (Nat.ble (Nat.succ id) s) (mCells (getT tr id) fun vs _ => mTwo (getR vs off) k) none
noncomputable def rLoad1 (a : AOpd) : Op1 := fun t tr s K => mPtr (evQ t a) (fun id off => rd1C tr s id off fun v => K v tr s) none
noncomputable def evsC (t : Tm) (xs : List AOpd) : (List AV → (Option RT)) → (Option RT) := List.rec (motive := fun _ => (List AV → (Option RT)) → (Option RT)) (fun k => k []) (fun x _ ih k => ih fun r => k (evQ t x :: r)) xs
noncomputable def rMkfn (f : Fn) (a b : List AOpd) : Op1 := fun t tr s K => evsC t a fun a => evsC t b fun b => K (.fn f a b) tr s
noncomputable def rField1 (x : AOpd) (off : Nat) : Op1 := fun t tr s K => mAgg (evQ t x) (fun cs => mTwo (getR cs off) fun v => K v tr s) none
noncomputable def rExtract (x : AOpd) (i : Nat) : Op1 := fun t tr s K => mTuple (evQ t x) (fun vs => mTwo (getR vs i) fun v => K v tr s) none
noncomputable def scal1 (v : AV) (k : AV → Option RT) (e : Option RT) : Option RT := AV.rec (motive_1 := fun _ => (AV → Option RT) → Option RT → Option RT) (motive_2 := fun _ => Unit) (fun a  k _ => k (.bool a)) (fun a b  k _ => k (.int a b)) (fun a  k _ => k (.str a)) (fun a b  k _ => k (.ptr a b)) (fun   k _ => k .nil) (fun a b c d e  k _ => k (.slice a b c d e)) (fun   k _ => k .nilslice) (fun a  k _ => k (.map a)) (fun   k _ => k .nilmap) (fun a b c _ _ k _ => k (.fn a b c)) (fun   k _ => k .nilfn) (fun a  k _ => k (.yield a)) (fun a b _ k _ => k (.iface a b)) (fun   k _ => k .niliface) (fun _ _ _ e => e) (fun _ _ _ e => e) (fun  _ e => e) () (fun _ _ _ _ => ()) v k e
noncomputable def setX (l : List AV) (i : Nat) (x : AV) (k : List AV → Option RT) : Option RT := List.rec (motive := fun _ => Nat → (List AV → Option RT) → Option RT) (fun _ _ => none) (fun a l ih i k => Nat.rec (motive := fun _ => Option RT) (k (x :: l)) (fun i _ => ih i fun r => k (a :: r)) i) l i k
noncomputable def rStore (a : AOpd) (n : Nat) (x : AOpd) : Op1 := fun t tr s K => Bool.rec (motive := fun _ => Option RT) (kStore a n x t tr s K)
  (mPtr (evQ t a) (fun id off => scal1 (evQ t x) (fun v => yes (Nat.ble (Nat.succ id) s) (mCells (getT tr id) fun cs own => yes own (setX cs off v fun c => setT tr id (.cells c true) fun tr' => K (.tuple []) tr' s) none) none) (kStore a n x t tr s K)) none) (Nat.beq n 1)
noncomputable def rCallV (f : AOpd) (args : List AOpd) (call : CallT) (yl : YlT) : Op1 := fun t tr s K =>
  mFn (evQ t f) (fun g first caps => fnNo g fun g => evsC t args fun as => appR as caps fun bs => appR first bs fun cs => outQ (call g cs tr s) K) (mYield (evQ t f) (fun id => evsC t args fun as => outQ (yl id as tr s) K) none)
noncomputable def opC (call : CallT) (yl : YlT) (o : AOp) : Bx (Op1) := AOp.rec (motive := fun _ => Bx (Op1)) (fun a => ⟨rMov a⟩) (fun a b c => ⟨rPick a b c⟩) (fun a => ⟨qAlloc a⟩) (fun a => ⟨qBox a⟩) (fun a b => ⟨qBuild a b⟩) (fun a b c d => ⟨qBuildSlice a b c d⟩) (fun a => ⟨rLoad1 a⟩) (fun a b => ⟨qLoadN a b⟩) (fun a b c => ⟨rStore a b c⟩) (fun a => ⟨fxQ (.nilCheck a)⟩) (fun op x y => ⟨(binB op).f x y call yl⟩) (fun a b c d => ⟨fxQ (.eqCells a b c d)⟩) (fun a => ⟨fxQ (.neg a)⟩) (fun a => ⟨qNot a⟩) (fun a b => ⟨fxQ (.conv a b)⟩) (fun a b c => ⟨rMkfn a b c⟩) (fun a b => ⟨qFieldAddr a b⟩) (fun a b => ⟨rField1 a b⟩) (fun a b c => ⟨qFieldN a b c⟩) (fun a b c => ⟨qIdxSl a b c⟩) (fun a b c d => ⟨qIdxArr a b c d⟩) (fun a b c => ⟨fxQ (.index1 a b c)⟩) (fun a b c d => ⟨qIndexN a b c d⟩) (fun a b c d => ⟨fxQ (.slice a b c d)⟩) (fun a b c d e => ⟨fxQ (.slice3 a b c d e)⟩) (fun a b => ⟨rExtract a b⟩) (fun a => ⟨qLen a⟩) (fun a => ⟨fxQ (.lenS a)⟩) (fun a b c d => ⟨kAppend a b c d⟩) (fun a b => ⟨fxQ (.min2 a b)⟩) (fun a b => ⟨fxQ (.max2 a b)⟩) (fun a b c d => ⟨fxQ (.eqv a b c d)⟩) (fun a b c => ⟨fxQ (.shift a b c)⟩) (fun a => ⟨fxQ (.capS a)⟩) (fun a b => ⟨fxQ (.sIdx a b)⟩) (fun a b c => ⟨fxQ (.sSlice a b c)⟩) (fun a b c d e => ⟨fxQ (.makeSl a b c d e)⟩) ⟨fxQ .makeMap⟩ (fun a b c d e => ⟨fxQ (.mapGet a b c d e)⟩) (fun a b c d => ⟨fxQ (.mapPut a b c d)⟩) (fun a b c => ⟨fxQ (.mapDel a b c)⟩) (fun a => ⟨fxQ (.mapClear a)⟩) (fun a => ⟨fxQ (.lenM a)⟩) (fun a => ⟨fxQ (.rangeM a)⟩) (fun a => ⟨fxQ (.nextM a)⟩) (fun a => ⟨fxQ (.entryM a)⟩) ⟨fxQ .bad⟩ (fun f args => ⟨fun t tr s K => evsC t args fun as => outQ (call f as tr s) K⟩) (fun f args => ⟨rCallV f args call yl⟩) (fun a b c d e => ⟨fxQ (.appZ a b c d e)⟩) o
noncomputable def stepC (g : Option (Nat × Bool)) (d : Option Nat) (q : Bx (Op1)) (ih : Bx (OsQ)) : Bx (OsQ) :=
  Option.rec (motive := fun _ => Bx (OsQ))
    (Option.rec (motive := fun _ => Bx (OsQ)) ⟨fun t tr s K => q.f t tr s fun _ tr' s' => ih.f t tr' s' K⟩ (fun d => ⟨fun t tr s K => q.f t tr s fun v tr' s' => ih.f ((d, v) :: t) tr' s' K⟩) d)
    (fun p => ⟨(guardB (some p)).f ((dstB d).f q.f ih.f) ((skipB d).f ih.f)⟩) g
noncomputable def opsC (call : CallT) (yl : YlT) (l : List AO) : Bx (OsQ) :=
  List.rec (motive := fun _ => Bx (OsQ)) ⟨fun t tr s K => K t tr s⟩ (fun o _ ih => stepC o.guard o.dst (opC call yl o.op) ih) l
abbrev GQ := Bx (Op1) → List Nat → List Nat → Nat → Option Nat → AOp → DQ → DQ
noncomputable def g0 : GQ := fun q _ _ _ d _ ih past rds t tr s K => q.f t tr s fun v _ _ => putQ d v t fun t => ih past rds t tr s K
noncomputable def g1 : GQ := fun q ps _ i d o ih past rds t tr s K => q.f t tr s fun v _ _ => yes (pastQ ps o t v past) (putQ d v t fun t' => ih past (⟨i, o, t, v⟩ :: rds) t' tr s K) none
noncomputable def g2 : GQ := fun q ps sl i d _ ih past rds t tr s K => q.f t tr s fun v tr' s' => yes (scopQ sl t s) (yes (recQ ps tr' s' rds) (putQ d v t fun t' => ih ((i, tr, s) :: past) (filterR (fun r => !memR r.at_ ps) rds) t' tr' s' K) none) none
noncomputable def g3 : GQ := fun q ps sl i d _ ih past rds t tr s K => q.f t tr s fun v tr' s' => yes (scopQ sl t s) (yes (Nat.ble s s') (yes (recQ ps tr' s' rds) (putQ d v t fun t' => ih ((i, tr, s) :: past) (filterR (fun r => !memR r.at_ ps) rds) t' tr' s' K) none) none) none
noncomputable def clsC (o : AOp) : GQ := AOp.rec (motive := fun _ => GQ) (fun _ => g0) (fun _ _ _ => g0) (fun _ => g2) (fun _ => g2) (fun _ _ => g0) (fun _ _ _ _ => g2) (fun _ => g1) (fun _ _ => g1) (fun _ _ _ => g3) (fun _ => g0) (fun _ _ _ => g0) (fun _ _ _ _ => g0) (fun _ => g0) (fun _ => g0) (fun _ _ => g0) (fun _ _ _ => g0) (fun _ _ => g0) (fun _ _ => g0) (fun _ _ _ => g0) (fun _ _ _ => g0) (fun _ _ _ _ => g0) (fun _ _ _ => g0) (fun _ _ _ _ => g0) (fun _ _ _ _ => g0) (fun _ _ _ _ _ => g0) (fun _ _ => g0) (fun _ => g0) (fun _ => g0) (fun _ _ _ _ => g3) (fun _ _ => g0) (fun _ _ => g0) (fun _ _ _ _ => g0) (fun _ _ _ => g0) (fun _ => g0) (fun _ _ => g0) (fun _ _ _ => g0) (fun _ _ _ _ _ => g2) g2 (fun _ _ _ _ _ => g1) (fun _ _ _ _ => g3) (fun _ _ _ => g3) (fun _ => g3) (fun _ => g1) (fun _ => g3) (fun _ => g3) (fun _ => g1) g0 (fun _ _ => g3) (fun _ _ => g3) (fun _ _ _ _ _ => g3) o
noncomputable def drawC (call : CallT) (yl : YlT) (ps : List (List Nat)) (l : List AO) : Nat → Bx (DQ) :=
  List.rec (motive := fun _ => Nat → Bx (DQ)) (fun _ => ⟨fun _ _ t tr s K => K t tr s⟩)
    (fun o _ ih i => ⟨fun past rds => (guardB o.guard).f (clsC o.op (opC call yl o.op) (prB ps i).f (slotsB o.op).f i o.dst o.op (ih (Nat.succ i)).f past rds) ((skipB o.dst).f ((ih (Nat.succ i)).f past rds))⟩) l
noncomputable def rfC (call : CallT) (f : AOpd) (ps : List Nat) (a b : AC) : OsE := fun t tr s K => rfQ f ps a b call (fun _ _ _ _ => none) 0 t tr s K
noncomputable def codeC (call : CallT) (yl : YlT) (n : Nat) (c : AC) : Bx (OsE) :=
  AC.rec (motive := fun _ => Bx (OsE))
    ⟨fun t tr s K => K .normal t tr s⟩
    (fun l live => ⟨fun t tr s K => (opsC call yl l).f t tr s fun t tr s => (liveB live).f t tr s K⟩)
    (fun l ps live => ⟨fun t tr s K => (drawC call yl ps l 0).f [] [] t tr s fun t tr s => (liveB live).f t tr s K⟩)
    (fun _ _ ia ib => ⟨fun t tr s K => ia.f t tr s fun e t tr s => exK e (ib.f t tr s K) fun e => K e t tr s⟩)
    (fun c _ _ ia ib => ⟨fun t tr s K => mBool (evQ t c) (fun b => Bool.rec (motive := fun _ => OsE) ib.f ia.f b t tr s K) none⟩)
    (fun id _ ia => ⟨fun t tr s K => ia.f t tr s (blockK id K)⟩)
    (fun _ ia => ⟨fun t tr s K => loopQ ia.f n t tr s K⟩)
    (fun _ ia => ⟨fun t tr s K => ia.f t tr s (scopeQ K)⟩)
    (fun id => ⟨fun t tr s K => K (.exit id) t tr s⟩)
    ⟨fun t tr s K => K .ret t tr s⟩
    (fun f ps a b _ _ => ⟨rfC call f ps a b⟩)
    ⟨fun _ _ _ _ => none⟩ c
noncomputable def funC (call : CallT) (yl : YlT) (n : Nat) (e : Option Ent) : Bx (List AV → Tr → Nat → Option (AV × Tr × Nat)) := Option.rec (motive := fun _ => Bx (List AV → Tr → Nat → Option (AV × Tr × Nat))) ⟨fun _ _ _ => none⟩
  (fun e => ⟨fun args tr s => yes (Nat.beq (lenR args) e.n) (argsQ args 0 fun t => (codeC call yl n e.ac).f t tr s (leaveQ e.rs)) none⟩) e
noncomputable def roundC (call : CallT) (yl : YlT) (n : Nat) (id : Nat) (args : List AV) (tr : Tr) (s : Nat) : Option (AV × Tr × Nat) :=
  yes (Nat.ble (Nat.succ id) s) (mLoop (getT tr id) fun t ps a b ph => Phase.rec (motive := fun _ => Option (AV × Tr × Nat))
    (yes (Nat.beq (lenR args) (lenR ps)) (roundTQ ps args t fun t => (codeC call yl n a).f t tr s fun e t1 tr1 s1 => exK e
      (yes (Nat.ble (Nat.succ id) s1) (mLoop (getT tr1 id) fun t0 ps1 a1 b1 ph => Phase.rec (motive := fun _ => Option (AV × Tr × Nat)) (setT tr1 id (.other (.loop t0 ps1 a1 b1 .busy)) fun tr1 => (codeC call yl n b).f t1 tr1 s1 (rLeave id)) none (fun _ => none) ph) none) fun _ => none) none) none (fun _ => none) ph) none
end
noncomputable def goC (T : ETr) (n : Nat) : CallT × YlT :=
  Nat.rec (motive := fun _ => CallT × YlT) (fun _ _ _ _ => none, fun _ _ _ _ => none) (fun n ih => (fun f args tr s => (funC ih.1 ih.2 n (getE T f)).f args tr s, roundC ih.1 ih.2 n)) n
end Go.Abs
