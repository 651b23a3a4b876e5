/- The abstract machine, run by recursors, with all that is reckoned written out: for the kernel. -/
import Derived.Test.YtdocpfbfchaekaaGreatA24
noncomputable section
namespace Go.Abs
open Go.RowKit
inductive Tr where
  | nil
  | bin (l:Tr) (o:AObj) (r:Tr)
abbrev RT:Type:=AV × Tr × Nat
universe u
/-! ### Numbers and lists -/
def fN (n:Nat) (k:Nat→(Option RT)):(Option RT):=Nat.casesOn (motive:=fun _=>(Option RT)) n (k 0) fun m=>k (Nat.succ m)
theorem fN_eq (n:Nat) (k:Nat→(Option RT)):fN n k=k n:=by cases n <;> rfl
def fI (i:Int) (k:Int→(Option RT)):(Option RT):=Int.casesOn (motive:=fun _=>(Option RT)) i (fun n=>fN n fun n=>k (.ofNat n)) fun n=>fN n fun n=>k (.negSucc n)
theorem fI_eq (i:Int) (k:Int→(Option RT)):fI i k=k i:=by cases i <;> simp only [fI,fN_eq]
def fB (b:Bool) (k:Bool→(Option RT)):(Option RT):=Bool.casesOn (motive:=fun _=>(Option RT)) b (k false) (k true)
theorem fB_eq (b:Bool) (k:Bool→(Option RT)):fB b k=k b:=by cases b <;> rfl
def yes {δ:Type u} (b:Bool) (x y:δ):δ:=Bool.casesOn (motive:=fun _=>δ) b y x
theorem yes_eq {δ:Type u} (b:Bool) (x y:δ):yes b x y=if b=true then x else y:=by cases b <;> rfl
def ile:Int→Int→Bool:=fun a b=>Int.casesOn (motive:=fun _=>Bool) a (fun m=>Int.casesOn (motive:=fun _=>Bool) b (fun n=>Nat.ble m n) fun _=>false) fun m=>Int.casesOn (motive:=fun _=>Bool) b (fun _=>true) fun n=>Nat.ble n m
theorem ile_eq (a b:Int):ile a b=decide (a≤b):=by
  rw [Bool.eq_iff_iff,decide_eq_true_eq]
  cases a <;> cases b <;> simp only [ile,Nat.ble_eq,Bool.false_eq_true,false_iff,true_iff,Int.ofNat_eq_natCast] <;> omega
def ieq (a b:Int):Bool:=Int.casesOn (motive:=fun _=>Bool) a (fun m=>Int.casesOn (motive:=fun _=>Bool) b (fun n=>Nat.beq m n) fun _=>false) fun m=>Int.casesOn (motive:=fun _=>Bool) b (fun _=>false) fun n=>Nat.beq m n
theorem ieq_eq (a b:Int):ieq a b=decide (a=b):=by
  rw [Bool.eq_iff_iff,decide_eq_true_eq]
  cases a <;> cases b <;> simp only [ieq,Nat.beq_eq,Bool.false_eq_true,false_iff,reduceCtorEq,Int.ofNat.injEq,Int.negSucc.injEq,Int.ofNat_eq_natCast] <;> omega
def kno:IntKind→Nat:=fun k=>IntKind.casesOn (motive:=fun _=>Nat) k 0 1 2 3 4 5 6 7
def keq (a b:IntKind):Bool:=Nat.beq (kno a) (kno b)
theorem keq_eq (a b:IntKind):keq a b=decide (a=b):=by cases a <;> cases b <;> rfl
theorem beq_dec (a b:Nat):Nat.beq a b=decide (a=b):=by
  rw [Bool.eq_iff_iff,decide_eq_true_eq,Nat.beq_eq]
theorem ble_dec (a b:Nat):Nat.ble a b=decide (a≤b):=by
  rw [Bool.eq_iff_iff,decide_eq_true_eq,Nat.ble_eq]
section
variable {γ:Type}
def lenR (l:List γ):Nat:=List.rec (motive:=fun _=>Nat) 0 (fun _ _ ih=>Nat.succ ih) l
theorem lenR_eq:∀ l:List γ,lenR l=l.length
  | []=>rfl
  | _ :: l=>congrArg Nat.succ (lenR_eq l)
def getR (l:List γ):Nat→Option γ:=List.rec (motive:=fun _=>Nat→Option γ) (fun _=>none) (fun a _ ih i=>Nat.casesOn (motive:=fun _=>Option γ) i (some a) ih) l
theorem getR_eq:∀ (l:List γ) (i:Nat),getR l i=l[i]?
  | [],i=>by simp [getR]
  | a :: l,0=>rfl
  | a :: l,i+1=>by
    show getR l i=_
    rw [getR_eq l i];simp
def dropR (l:List γ) (n:Nat):List γ:=Nat.rec (motive:=fun _=>List γ→List γ) (fun l=>l) (fun _ ih l=>List.casesOn (motive:=fun _=>List γ) l [] fun _ l=>ih l) n l
theorem dropR_eq:∀ (n:Nat) (l:List γ),dropR l n=l.drop n
  | 0,l=>rfl
  | n+1,[]=>rfl
  | n+1,a :: l=>by
    show dropR l n=_
    rw [dropR_eq n l];rfl
def takeR (l:List γ) (n:Nat) (k:List γ→(Option RT)):(Option RT):=Nat.rec (motive:=fun _=>List γ→(List γ→(Option RT))→(Option RT)) (fun _ k=>k []) (fun _ ih l k=>List.casesOn (motive:=fun _=>(Option RT)) l (k []) fun a l=>ih l fun r=>k (a :: r)) n l k
theorem takeR_eq:∀ (n:Nat) (l:List γ) (k:List γ→(Option RT)),takeR l n k=k (l.take n)
  | 0,l,k=>by rw [List.take_zero];rfl
  | n+1,[],k=>by simp [takeR]
  | n+1,a :: l,k=>by
    show takeR l n (fun r=>k (a :: r))=_
    rw [takeR_eq n l];rfl
def appR (l m:List γ) (k:List γ→(Option RT)):(Option RT):=List.rec (motive:=fun _=>(List γ→(Option RT))→(Option RT)) (fun k=>k m) (fun a _ ih k=>ih fun r=>k (a :: r)) l k
theorem appR_eq:∀ (l m:List γ) (k:List γ→(Option RT)),appR l m k=k (l++m)
  | [],m,k=>rfl
  | a :: l,m,k=>by
    show appR l m (fun r=>k (a :: r))=_
    rw [appR_eq l m];rfl
def setR (l:List γ) (i:Nat) (x:γ) (k:List γ→(Option RT)):(Option RT):=List.rec (motive:=fun _=>Nat→(List γ→(Option RT))→(Option RT)) (fun _ k=>k []) (fun a l ih i k=>Nat.casesOn (motive:=fun _=>(Option RT)) i (k (x :: l)) fun i=>ih i fun r=>k (a :: r)) l i k
theorem setR_eq:∀ (l:List γ) (i:Nat) (x:γ) (k:List γ→(Option RT)),setR l i x k=k (l.set i x)
  | [],i,x,k=>by simp [setR]
  | a :: l,0,x,k=>rfl
  | a :: l,i+1,x,k=>by
    show setR l i x (fun r=>k (a :: r))=_
    rw [setR_eq l i x];rfl
def allR (p:γ→Bool) (l:List γ):Bool:=List.rec (motive:=fun _=>Bool) true (fun a _ ih=>Bool.casesOn (motive:=fun _=>Bool) (p a) false ih) l
theorem allR_eq (p:γ→Bool):∀ l:List γ,allR p l=l.all p
  | []=>rfl
  | a :: l=>by
    show (Bool.casesOn (motive:=fun _=>Bool) (p a) false (allR p l))=_
    rw [allR_eq p l,List.all_cons]
    cases p a <;> rfl
def memR (n:Nat) (l:List Nat):Bool:=List.rec (motive:=fun _=>Bool) false (fun a _ ih=>Bool.casesOn (motive:=fun _=>Bool) (Nat.beq n a) ih true) l
theorem memR_eq (n:Nat):∀ l:List Nat,memR n l=l.contains n
  | []=>rfl
  | a :: l=>by
    show (Bool.casesOn (motive:=fun _=>Bool) (Nat.beq n a) (memR n l) true)=_
    rw [memR_eq n l,List.contains_cons,beq_dec]
    by_cases h:n=a <;> simp [h]
end
/-! ### Values written out -/
def fV (v:AV):(AV→(Option RT))→(Option RT) :=
  AV.rec (motive_1:=fun _=>(AV→(Option RT))→(Option RT)) (motive_2:=fun _=>(List AV→(Option RT))→(Option RT))
    (fun b k=>fB b fun b=>k (.bool b)) (fun q n k=>fI n fun n=>k (.int q n)) (fun s k=>k (.str s)) (fun i o k=>fN i fun i=>fN o fun o=>k (.ptr i o)) (fun k=>k .nil)
    (fun i o l s x k=>fN i fun i=>fN o fun o=>fN l fun l=>fN s fun s=>fB x fun x=>k (.slice i o l s x)) (fun k=>k .nilslice) (fun i k=>fN i fun i=>k (.map i)) (fun k=>k .nilmap)
    (fun f _ _ ia ib k=>ia fun a=>ib fun b=>k (.fn f a b)) (fun k=>k .nilfn) (fun i k=>fN i fun i=>k (.yield i)) (fun t _ ih k=>ih fun v=>k (.iface t v)) (fun k=>k .niliface)
    (fun _ ih k=>ih fun cs=>k (.agg cs)) (fun _ ih k=>ih fun cs=>k (.tuple cs)) (fun k=>k .junk)
    (fun k=>k []) (fun _ _ iv il k=>iv fun v=>il fun l=>k (v :: l)) v
def fL (l:List AV):(List AV→(Option RT))→(Option RT):=List.rec (motive:=fun _=>(List AV→(Option RT))→(Option RT)) (fun k=>k []) (fun v _ ih k=>fV v fun v=>ih fun l=>k (v :: l)) l
mutual
theorem fV_eq:∀ (v:AV) (k:AV→(Option RT)),fV v k=k v
  | .bool b,k=>fB_eq b fun b=>k (.bool b)
  | .int q n,k=>fI_eq n fun n=>k (.int q n)
  | .ptr i o,k=>(fN_eq i fun i=>fN o fun o=>k (.ptr i o)).trans (fN_eq o fun o=>k (.ptr i o))
  | .slice i o l s x,k=>(fN_eq i fun i=>fN o fun o=>fN l fun l=>fN s fun s=>fB x fun x=>k (.slice i o l s x)).trans ((fN_eq o fun o=>fN l fun l=>fN s fun s=>fB x fun x=>k (.slice i o l s x)).trans
      ((fN_eq l fun l=>fN s fun s=>fB x fun x=>k (.slice i o l s x)).trans ((fN_eq s fun s=>fB x fun x=>k (.slice i o l s x)).trans (fB_eq x fun x=>k (.slice i o l s x)))))
  | .map i,k=>fN_eq i fun i=>k (.map i)
  | .yield i,k=>fN_eq i fun i=>k (.yield i)
  | .fn f a b,k=>(fL'_eq a fun a=>_).trans (fL'_eq b fun b=>k (.fn f a b))
  | .iface t v,k=>fV_eq v fun v=>k (.iface t v)
  | .agg cs,k=>fL'_eq cs fun cs=>k (.agg cs)
  | .tuple cs,k=>fL'_eq cs fun cs=>k (.tuple cs)
  | .str _,_|.nil,_|.nilslice,_|.nilmap,_|.nilfn,_|.niliface,_|.junk,_=>rfl
theorem fL'_eq:∀ (v:List AV) (k:List AV→(Option RT)),(AV.rec_1 (motive_1:=fun _=>(AV→(Option RT))→(Option RT)) (motive_2:=fun _=>(List AV→(Option RT))→(Option RT))
    (fun b k=>fB b fun b=>k (.bool b)) (fun q n k=>fI n fun n=>k (.int q n)) (fun s k=>k (.str s)) (fun i o k=>fN i fun i=>fN o fun o=>k (.ptr i o)) (fun k=>k .nil)
    (fun i o l s x k=>fN i fun i=>fN o fun o=>fN l fun l=>fN s fun s=>fB x fun x=>k (.slice i o l s x)) (fun k=>k .nilslice) (fun i k=>fN i fun i=>k (.map i)) (fun k=>k .nilmap)
    (fun f _ _ ia ib k=>ia fun a=>ib fun b=>k (.fn f a b)) (fun k=>k .nilfn) (fun i k=>fN i fun i=>k (.yield i)) (fun t _ ih k=>ih fun v=>k (.iface t v)) (fun k=>k .niliface)
    (fun _ ih k=>ih fun cs=>k (.agg cs)) (fun _ ih k=>ih fun cs=>k (.tuple cs)) (fun k=>k .junk)
    (fun k=>k []) (fun _ _ iv il k=>iv fun v=>il fun l=>k (v :: l)) v) k=k v
  | [],_=>rfl
  | v :: vs,k=>(fV_eq v fun v=>_).trans (fL'_eq vs fun l=>k (v :: l))
end
def wV (v:AV) (k:AV→(Option RT)):(Option RT):=AV.casesOn (motive_1:=fun _=>(Option RT)) v (fun b=>k (.bool b)) (fun q n=>k (.int q n)) (fun s=>k (.str s)) (fun i o=>k (.ptr i o)) (k .nil)
  (fun i o l s x=>k (.slice i o l s x)) (k .nilslice) (fun i=>k (.map i)) (k .nilmap) (fun f a b=>k (.fn f a b)) (k .nilfn) (fun i=>k (.yield i)) (fun t v=>k (.iface t v)) (k .niliface)
  (fun cs=>k (.agg cs)) (fun cs=>k (.tuple cs)) (k .junk)
theorem wV_eq (v:AV) (k:AV→(Option RT)):wV v k=k v:=by cases v <;> rfl
def lkR (t:List (Nat × AV)) (i:Nat):AV:=List.rec (motive:=fun _=>AV) .junk (fun p _ ih=>Bool.casesOn (motive:=fun _=>AV) (Nat.beq p.1 i) ih p.2) t
theorem lkR_eq:∀ (t:List (Nat × AV)) (i:Nat),lkR t i=lk t i
  | [],_=>rfl
  | (j,v) :: t,i=>by
    show (Bool.casesOn (motive:=fun _=>AV) (Nat.beq j i) (lkR t i) v)=_
    rw [lkR_eq t i,beq_dec,lk]
    by_cases h:j=i <;> simp [h]
def evR (t:List (Nat × AV)) (x:AOpd):AV:=AOpd.casesOn (motive:=fun _=>AV) x (fun i=>lkR t i) fun v=>v
theorem evR_eq (t:List (Nat × AV)):evR t=AOpd.ev t:=by
  funext x;cases x <;> simp only [evR,AOpd.ev,lkR_eq]
def evsR (t:List (Nat × AV)) (xs:List AOpd):(List AV→(Option RT))→(Option RT):=List.rec (motive:=fun _=>(List AV→(Option RT))→(Option RT)) (fun k=>k []) (fun x _ ih k=>wV (evR t x) fun v=>ih fun r=>k (v :: r)) xs
theorem evsR_eq (t:List (Nat × AV)):∀ (xs:List AOpd) (k:List AV→(Option RT)),evsR t xs k=k (xs.map (AOpd.ev t))
  | [],_=>rfl
  | x :: xs,k=>by
    show wV (evR t x) (fun v=>evsR t xs fun r=>k (v :: r))=_
    rw [wV_eq,evsR_eq t xs,evR_eq];rfl
def pruneR (t:List (Nat × AV)) (ks:List Nat):(List (Nat × AV)→(Option RT))→(Option RT):=List.rec (motive:=fun _=>(List (Nat × AV)→(Option RT))→(Option RT)) (fun k=>k []) (fun i _ ih k=>wV (lkR t i) fun v=>ih fun r=>k ((i,v) :: r)) ks
theorem pruneR_eq (t:List (Nat × AV)):∀ (ks:List Nat) (k:List (Nat × AV)→(Option RT)),pruneR t ks k=k (ks.map fun i=>(i,lk t i))
  | [],_=>rfl
  | i :: ks,k=>by
    show wV (lkR t i) (fun v=>pruneR t ks fun r=>k ((i,v) :: r))=_
    rw [wV_eq,pruneR_eq t ks,lkR_eq];rfl
def fT (t:List (Nat × AV)):(List (Nat × AV)→(Option RT))→(Option RT):=List.rec (motive:=fun _=>(List (Nat × AV)→(Option RT))→(Option RT)) (fun k=>k []) (fun p _ ih k=>fN p.1 fun i=>wV p.2 fun v=>ih fun r=>k ((i,v) :: r)) t
theorem fT_eq:∀ (t:List (Nat × AV)) (k:List (Nat × AV)→(Option RT)),fT t k=k t
  | [],_=>rfl
  | (i,v) :: t,k=>by
    show fN i (fun i=>wV v fun v=>fT t fun r=>k ((i,v) :: r))=_
    rw [fN_eq,wV_eq,fT_eq t]
/-! ### Operations -/
section
def cellsR (v:AV) (k:List AV→Option RT):Option RT:=match v with
  | .agg cs=>k cs
  | .junk=>none
  | v=>k [v]
theorem cellsR_eq (v:AV) (k:List AV→Option RT):cellsR v k=match cellsOf v with|some cs=>k cs|none=>none:=by cases v <;> rfl
def spliceR (cs:List AV) (off:Nat) (vs:List AV) (k:List AV→(Option RT)):(Option RT):=takeR cs off fun a=>appR vs (dropR cs (off+lenR vs)) fun r=>appR a r k
theorem spliceR_eq (cs:List AV) (off:Nat) (vs:List AV) (k:List AV→(Option RT)):spliceR cs off vs k=k (splice cs off vs):=by
  simp only [spliceR,takeR_eq,appR_eq,dropR_eq,lenR_eq,splice,List.append_assoc]
def fillR (t:List (Nat × AV)) (ps:List (Nat × Nat × AOpd)):List AV→(List AV→Option RT)→Option RT :=
  List.rec (motive:=fun _=>List AV→(List AV→Option RT)→Option RT) (fun cs k=>k cs)
    (fun p _ ih cs k=>cellsR (evR t p.2.2) fun vs=>yes (Nat.beq (lenR vs) p.2.1) (yes (Nat.ble (p.1+p.2.1) (lenR cs)) (spliceR cs p.1 vs fun cs=>ih cs k) none) none) ps
theorem fillR_eq (t:List (Nat × AV)):∀ (ps:List (Nat × Nat × AOpd)) (cs:List AV) (k:List AV→Option RT),fillR t ps cs k=match fillA (AOpd.ev t) cs ps with|some cs=>k cs|none=>none
  | [],cs,k=>rfl
  | (off,n,x) :: ps,cs,k=>by
    show (cellsR (evR t x) fun vs=>yes (Nat.beq (lenR vs) n) (yes (Nat.ble (off+n) (lenR cs)) (spliceR cs off vs fun cs=>fillR t ps cs k) none) none)=_
    rw [cellsR_eq,evR_eq,fillA]
    cases cellsOf (AOpd.ev t x) with
    | none=>rfl
    | some vs =>
      simp only [yes_eq,spliceR_eq,lenR_eq,Nat.ble_eq,Nat.beq_eq,fillR_eq t ps]
      by_cases h1:vs.length=n
      · by_cases h2:off+n≤cs.length <;> simp [h1,h2]
      · simp [h1]
def binR (op:BinOp) (x y:AV) (k:AV→Option RT):Option RT:=match x,y with
  | .int q a,.int q' b=>yes (keq q q')
    (match op with
    | .add=>fI (q.wrap (a+b)) fun n=>k (.int q n)
    | .sub=>fI (q.wrap (a-b)) fun n=>k (.int q n)
    | .mul=>fI (q.wrap (a * b)) fun n=>k (.int q n)
    | .eql=>fB (ieq a b) fun r=>k (.bool r)
    | .neq=>fB (!ieq a b) fun r=>k (.bool r)
    | .lss=>fB (!ile b a) fun r=>k (.bool r)
    | .leq=>fB (ile a b) fun r=>k (.bool r)
    | .gtr=>fB (!ile a b) fun r=>k (.bool r)
    | .geq=>fB (ile b a) fun r=>k (.bool r)
    | .and=>fI (q.wrap ((BitVec.ofInt q.bits a &&& BitVec.ofInt q.bits b).toNat:Int)) fun n=>k (.int q n)
    | .or=>fI (q.wrap ((BitVec.ofInt q.bits a ||| BitVec.ofInt q.bits b).toNat:Int)) fun n=>k (.int q n)
    | .xor=>fI (q.wrap ((BitVec.ofInt q.bits a ^^^ BitVec.ofInt q.bits b).toNat:Int)) fun n=>k (.int q n)
    | .andNot=>fI (q.wrap ((BitVec.ofInt q.bits a &&& ~~~BitVec.ofInt q.bits b).toNat:Int)) fun n=>k (.int q n)
    | _=>none) none
  | x,y=>match binA op x y with
    | some v=>fV v k
    | none=>none
theorem binR_eq (op:BinOp) (x y:AV) (k:AV→Option RT):binR op x y k=match binA op x y with|some v=>k v|none=>none:=by
  unfold binR
  split
  · rename_i q a q' b
    simp only [yes_eq,keq_eq,binA]
    by_cases h:q=q'
    · subst h
      have e1:(!decide (b≤a))=decide (a<b):=by rw [Bool.eq_iff_iff];simp
      have e2:(!decide (a≤b))=decide (b<a):=by rw [Bool.eq_iff_iff];simp
      cases op <;> simp [fI_eq,fB_eq,ieq_eq,ile_eq,e1,e2]
    · simp [h]
  · cases binA op x y with
    | none=>rfl
    | some v=>exact fV_eq v k
/-! ### Keys and maps -/
def eqCellR (c:CK) (x y:AV) (k:Bool→Option RT):Option RT:=match c,x,y with
  | .int,.int q a,.int q' b=>yes (keq q q') (fB (ieq a b) k) none
  | .bool,.bool a,.bool b=>fB (a == b) k
  | c,x,y=>match eqCell c x y with
    | some r=>fB r k
    | none=>none
def opt {δ:Type u} (o:Option δ) (k:δ→Option RT):Option RT:=match o with
  | some a=>k a
  | none=>none
theorem eqCellR_eq (c:CK) (x y:AV) (k:Bool→Option RT):eqCellR c x y k=opt (eqCell c x y) k:=by
  unfold eqCellR
  split
  · rename_i q a q' b
    simp only [yes_eq,keq_eq,fB_eq,ieq_eq,eqCell]
    by_cases h:q=q' <;> simp [h,opt]
  · simp only [fB_eq,eqCell,opt]
  · simp only [fB_eq,opt];cases eqCell c x y <;> rfl
def eqRowR (cs:List CK):List AV→List AV→(Bool→Option RT)→Option RT :=
  List.rec (motive:=fun _=>List AV→List AV→(Bool→Option RT)→Option RT)
    (fun x y k=>match x,y with
      | [],[]=>k true
      | _,_=>none)
    (fun c _ ih x y k=>match x,y with
      | a :: x,b :: y=>eqCellR c a b fun r=>ih x y fun t=>fB (r && t) k
      | _,_=>none) cs
theorem eqRowR_eq:∀ (cs:List CK) (x y:List AV) (k:Bool→Option RT),eqRowR cs x y k=opt (eqRow cs x y) k
  | [],x,y,k=>by cases x <;> cases y <;> rfl
  | c :: cs,x,y,k=>by
    cases x with
    | nil=>cases y <;> rfl
    | cons a x =>
      cases y with
      | nil=>rfl
      | cons b y =>
        show (eqCellR c a b fun r=>eqRowR cs x y fun t=>fB (r && t) k)=_
        simp only [eqCellR_eq,eqRowR_eq cs,fB_eq,eqRow]
        cases eqCell c a b with
        | none=>rfl
        | some r=>cases eqRow cs x y <;> rfl
def keyR (kk:KK) (x y:AV) (k:Bool→Option RT):Option RT:=match kk with
  | .one c=>eqCellR c x y k
  | .row cs=>match x with
    | .agg x=>match y with
      | .agg y=>eqRowR cs x y k
      | _=>none
    | _=>none
theorem keyR_eq (kk:KK) (x y:AV) (k:Bool→Option RT):keyR kk x y k=opt (keyEq kk x y) k:=by
  cases kk with
  | one c=>simp only [keyR,keyEq,eqCellR_eq]
  | row cs =>
    cases x with
    | agg x=>cases y <;> first|rfl|(simp only [keyR,keyEq,eqRowR_eq])
    | _=>cases y <;> rfl
def findR (kk:KK) (x:AV) (es:List (AV × AV)):Nat→(Option Nat→Option RT)→Option RT :=
  List.rec (motive:=fun _=>Nat→(Option Nat→Option RT)→Option RT) (fun _ k=>k none)
    (fun p _ ih n k=>keyR kk x p.1 fun r=>yes r (k (some n)) (ih (Nat.succ n) k)) es
theorem findR_eq (kk:KK) (x:AV):∀ (es:List (AV × AV)) (n:Nat) (k:Option Nat→Option RT),findR kk x es n k=opt (findA kk x es) fun r=>k (r.map (n+·))
  | [],n,k=>rfl
  | p :: es,n,k=>by
    show (keyR kk x p.1 fun r=>yes r (k (some n)) (findR kk x es (n+1) k))=_
    simp only [keyR_eq,yes_eq,findR_eq kk x es,findA]
    cases keyEq kk x p.1 with
    | none=>rfl
    | some r =>
      cases r with
      | true=>rfl
      | false =>
        simp only [opt,Bool.false_eq_true,if_false]
        cases findA kk x es with
        | none=>rfl
        | some r =>
          cases r with
          | none=>rfl
          | some i=>simp only [Option.map_some];congr 2;omega
def eraseR {γ:Type} (l:List γ) (i:Nat) (k:List γ→(Option RT)):(Option RT):=List.rec (motive:=fun _=>Nat→(List γ→(Option RT))→(Option RT)) (fun _ k=>k []) (fun a l ih i k=>Nat.casesOn (motive:=fun _=>(Option RT)) i (k l) fun i=>ih i fun r=>k (a :: r)) l i k
theorem eraseR_eq {γ:Type}:∀ (l:List γ) (i:Nat) (k:List γ→(Option RT)),eraseR l i k=k (l.eraseIdx i)
  | [],i,k=>by simp [eraseR]
  | a :: l,0,k=>rfl
  | a :: l,i+1,k=>by
    show eraseR l i (fun r=>k (a :: r))=_
    rw [eraseR_eq l i];rfl
def repR (n:Nat) (zs:List AV) (k:List AV→(Option RT)):(Option RT):=Nat.rec (motive:=fun _=>(List AV→(Option RT))→(Option RT)) (fun k=>k []) (fun _ ih k=>ih fun r=>appR zs r k) n k
theorem repR_eq:∀ (n:Nat) (zs:List AV) (k:List AV→(Option RT)),repR n zs k=k (List.replicate n zs).flatten
  | 0,zs,k=>rfl
  | n+1,zs,k=>by
    show repR n zs (fun r=>appR zs r k)=_
    rw [repR_eq n zs,appR_eq,List.replicate_succ,List.flatten_cons]
end
end Go.Abs
end
