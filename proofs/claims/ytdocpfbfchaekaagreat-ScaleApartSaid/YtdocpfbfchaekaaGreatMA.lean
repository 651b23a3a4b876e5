/- Several texts as one. -/
import Derived.ProofKit
import Derived.CallsIn
import Derived.RangeFuncLeaves
import Derived.RangeFuncNested
import Derived.TacticsIn
import Derived.Deep.LoopGhost
import Derived.Scope
import Derived.Deep.Upon
/- The abstract machine: values,objects,operations,code;and how the model's operations and code are read as such. -/
namespace Go.Abs
open Go.RowKit
inductive AV where
  | bool (b:Bool)
  | int (k:IntKind) (n:Int)
  | str (s:ByteArray)
  | ptr (id off:Nat)
  | nil
  | slice (id off len sz:Nat) (ex:Bool)
  | nilslice
  | map (id:Nat)
  | nilmap
  | fn (f:Fn) (first caps:List AV)
  | nilfn
  | yield (id:Nat)
  | iface (t:TypeId) (v:AV)
  | niliface
  | agg (cs:List AV)
  | tuple (vs:List AV)
  | junk
  deriving Inhabited
structure Loc where
  blk:Nat
  base:Nat
  tot:Nat
abbrev Sg:=List (Option Loc)
mutual
def Rel (σ:Sg):AV→Value→Prop
  | .bool b,v=>v=.bool b
  | .int k n,v=>v=.int k n
  | .str s,v=>v=.string s
  | .ptr id off,v=>∃ l,σ[id]?=some (some l)∧v=.pointer (some ⟨l.blk,l.base+off,none⟩)
  | .nil,v=>v=.pointer none
  | .slice id off len sz ex,v =>
    (id<σ.length∧len=0∧∃ a,v=.slice a 0 0) ∨
    ∃ l o c,σ[id]?=some (some l)∧v=.slice (some ⟨l.blk,o,none⟩) len c∧len≤c∧(ex=true→c=len) ∧
      (c=0∨(o=l.base+off∧l.base+off+c * sz≤l.tot))
  | .nilslice,v=>v=.slice none 0 0
  | .map id,v=>∃ l,σ[id]?=some (some l)∧v=.map (some l.blk)
  | .nilmap,v=>v=.map none
  | .fn f first caps,v=>∃ a b,v=.func f a b∧RelL σ first a.toList∧RelL σ caps b.toList
  | .nilfn,v=>v=.nilFunc
  | .yield id,v=>∃ l,σ[id]?=some (some l)∧v=.func (.yield l.blk) #[] #[]
  | .iface t x,v=>∃ c,v=.iface t c∧Rel σ x c
  | .niliface,v=>v=.nilIface
  | .agg cs,v=>∃ a,v=.agg a∧RelL σ cs a.toList
  | .tuple cs,v=>∃ a,v=.tuple a∧RelL σ cs a.toList
  | .junk,_=>True
def RelL (σ:Sg):List AV→List Value→Prop
  | [],l=>l=[]
  | a :: as,l=>∃ v vs,l=v :: vs∧Rel σ a v∧RelL σ as vs
end
def lk:List (Nat × AV)→Nat→AV
  | [],_=>.junk
  | (k,v) :: r,i=>if k=i then v else lk r i
inductive AOpd where
  | t (i:Nat)
  | c (v:AV)
  deriving Inhabited
def AOpd.ev (t:List (Nat × AV)):AOpd→AV
  | .t i=>lk t i
  | .c v=>v
inductive EK where
  | bool
  | slice
  | ptr
  | func
  | map
  deriving Inhabited
inductive CK where
  | int
  | bool
  | str
  deriving Inhabited
inductive KK where
  | one (c:CK)
  | row (cs:List CK)
  deriving Inhabited
inductive AOp where
  | mov (x:AOpd)
  | pick (c a b:AOpd)
  | alloc (zs:List AV)
  | box (x:AOpd)
  | build (zs:List AV) (parts:List (Nat × Nat × AOpd))
  | buildSlice (zs:List AV) (parts:List (Nat × Nat × AOpd)) (len sz:Nat)
  | load1 (a:AOpd)
  | loadN (a:AOpd) (n:Nat)
  | store (a:AOpd) (n:Nat) (x:AOpd)
  | nilCheck (x:AOpd)
  | bin (op:BinOp) (x y:AOpd)
  | eqCells (neg:Bool) (offs:List (Nat × CK)) (x y:AOpd)
  | neg (x:AOpd)
  | not (x:AOpd)
  | conv (k:IntKind) (x:AOpd)
  | mkfn (f:Fn) (first caps:List AOpd)
  | fieldAddr (x:AOpd) (off:Nat)
  | field1 (x:AOpd) (off:Nat)
  | fieldN (x:AOpd) (off n:Nat)
  | idxSl (x i:AOpd) (sz:Nat)
  | idxArr (x i:AOpd) (n sz:Nat)
  | index1 (x i:AOpd) (n:Nat)
  | indexN (x i:AOpd) (n sz:Nat)
  | slice (x:AOpd) (lo hi:Option AOpd) (sz:Nat)
  | slice3 (x:AOpd) (lo:Option AOpd) (hi mx:AOpd) (sz:Nat)
  | extract (x:AOpd) (i:Nat)
  | len (x:AOpd)
  | lenS (x:AOpd)
  | append (x y:AOpd) (sz bytes:Nat)
  | min2 (x y:AOpd)
  | max2 (x y:AOpd)
  | eqv (k:EK) (ng:Bool) (x y:AOpd)
  | shift (l:Bool) (x y:AOpd)
  | capS (x:AOpd)
  | sIdx (x i:AOpd)
  | sSlice (x:AOpd) (lo hi:Option AOpd)
  | makeSl (zs:List AV) (sz bytes:Nat) (ln cp:AOpd)
  | makeMap
  | mapGet (ok:Bool) (z:AV) (k:KK) (m i:AOpd)
  | mapPut (k:KK) (m i x:AOpd)
  | mapDel (k:KK) (m i:AOpd)
  | mapClear (m:AOpd)
  | lenM (m:AOpd)
  | rangeM (m:AOpd)
  | nextM (i:AOpd)
  | entryM (i:AOpd)
  | bad
  | callF (f:FuncId) (args:List AOpd)
  | callV (f:AOpd) (args:List AOpd)
  | appZ (zs:List AV) (sz bytes:Nat) (x n:AOpd)
  deriving Inhabited
structure AO where
  dst:Option Nat
  op:AOp
  guard:Option (Nat × Bool)
  deriving Inhabited
inductive AC where
  | skip
  | ops (l:List AO) (live:Option (List Nat))
  | draw (l:List AO) (ps:List (List Nat)) (live:Option (List Nat))
  | seq (a b:AC)
  | cond (c:AOpd) (a b:AC)
  | block (id:Nat) (a:AC)
  | loop (a:AC)
  | scope (a:AC)
  | exit (id:Nat)
  | ret
  | rangeFunc (f:AOpd) (ps:List Nat) (assign body:AC)
  | bad
  deriving Inhabited
inductive Jump where
  | ret
  | exit (id:Nat)
  deriving Inhabited
def Jump.code:Jump→Code
  | .ret=>.ret
  | .exit id=>.exit id
def Jump.ex:Jump→Exit
  | .ret=>.ret
  | .exit id=>.exit id
inductive Phase where
  | ready
  | busy
  | done (j:Jump)
  deriving Inhabited
inductive OObj where
  | map (es:List (AV × AV)) (bs:List Nat) (clock:Nat)
  | iter (m:Option Nat) (since:Nat) (seen:List Nat) (last:Nat)
  | loop (t:List (Nat × AV)) (ps:List Nat) (assign body:AC) (ph:Phase)
  deriving Inhabited
inductive AObj where
  | cells (vs:List AV) (own:Bool)
  | other (o:OObj)
  | dead
  deriving Inhabited
abbrev Heap:=List AObj
def AObj.isOwn:AObj→Bool
  | .cells _ own=>own
  | .other _=>true
  | .dead=>false
def AObj.live:AObj→Bool
  | .dead=>false
  | _=>true
def cellsOf:AV→Option (List AV)
  | .agg cs=>some cs
  | .junk=>none
  | v=>some [v]
def scal:AV→Bool
  | .agg _|.tuple _|.junk=>false
  | _=>true
def rd (h:Heap) (id off n:Nat):Option (List AV) :=
  match h[id]? with
  | some (.cells vs _)=>if off+n≤vs.length then some ((vs.drop off).take n) else none
  | _=>none
def splice (cs:List AV) (off:Nat) (vs:List AV):List AV:=cs.take off++vs++cs.drop (off+vs.length)
def wr (h:Heap) (id off:Nat) (vs:List AV):Option Heap :=
  match h[id]? with
  | some (.cells cs true)=>if off+vs.length≤cs.length then some (h.set id (.cells (splice cs off vs) true)) else none
  | _=>none
def sliceCells (h:Heap) (sz:Nat):AV→Option (Nat × List AV)
  | .nilslice=>some (0,[])
  | .slice id off len sz' _=>if sz'=sz then (rd h id off (len * sz)).map (Prod.mk len) else none
  | _=>none
def fillA (ev:AOpd→AV):List AV→List (Nat × Nat × AOpd)→Option (List AV)
  | cs,[]=>some cs
  | cs,(off,n,x) :: r =>
    match cellsOf (ev x) with
    | some vs=>if vs.length=n∧off+n≤cs.length then fillA ev (splice cs off vs) r else none
    | none=>none
def eqvA:EK→AV→AV→Option Bool
  | .bool,.bool a,.bool b=>some (a == b)
  | .slice,.nilslice,.nilslice=>some true
  | .slice,.slice _ _ n _ _,.nilslice=>if n=0 then none else some false
  | .slice,.nilslice,.slice _ _ n _ _=>if n=0 then none else some false
  | .ptr,.nil,.nil=>some true
  | .ptr,.ptr _ _,.nil=>some false
  | .ptr,.nil,.ptr _ _=>some false
  | .func,.nilfn,.nilfn=>some true
  | .func,.fn _ _ _,.nilfn=>some false
  | .func,.nilfn,.fn _ _ _=>some false
  | .map,.nilmap,.nilmap=>some true
  | .map,.map _,.nilmap=>some false
  | .map,.nilmap,.map _=>some false
  | _,_,_=>none
def shiftA (l:Bool) (x y:AV):Option AV :=
  match x,y with
  | .int k a,.int _ b=>if b<0 then none else some (.int k (if l=true then k.wrap (a * 2 ^ (min b.toNat k.bits)) else a.fdiv (2 ^ (min b.toNat k.bits))))
  | _,_=>none
def binA (op:BinOp) (x y:AV):Option AV :=
  match x,y with
  | .int k a,.int k' b =>
    if k=k' then
      match op with
      | .add=>some (.int k (k.wrap (a+b)))
      | .sub=>some (.int k (k.wrap (a-b)))
      | .mul=>some (.int k (k.wrap (a * b)))
      | .eql=>some (.bool (decide (a=b)))
      | .neq=>some (.bool (!decide (a=b)))
      | .lss=>some (.bool (decide (a<b)))
      | .leq=>some (.bool (decide (a≤b)))
      | .gtr=>some (.bool (decide (b<a)))
      | .geq=>some (.bool (decide (b≤a)))
      | .and=>some (.int k (k.wrap ((BitVec.ofInt k.bits a &&& BitVec.ofInt k.bits b).toNat:Int)))
      | .or=>some (.int k (k.wrap ((BitVec.ofInt k.bits a ||| BitVec.ofInt k.bits b).toNat:Int)))
      | .xor=>some (.int k (k.wrap ((BitVec.ofInt k.bits a ^^^ BitVec.ofInt k.bits b).toNat:Int)))
      | .andNot=>some (.int k (k.wrap ((BitVec.ofInt k.bits a &&& ~~~BitVec.ofInt k.bits b).toNat:Int)))
      | _=>none
    else none
  | .str a,.str b =>
    match op with
    | .add=>if a.size+b.size≤9223372036854775807 then some (.str (a++b)) else none
    | .eql=>some (.bool (a.toList == b.toList))
    | .neq=>some (.bool (!(a.toList == b.toList)))
    | _=>none
  | _,_=>none
def divA (op:BinOp) (x y:AV) (K:AV→Prop):Prop :=
  match x,y with
  | .int k a,.int k' b =>
    k=k'∧b≠0 ∧
      match op with
      | .quo=>K (.int k (k.wrap (a.tdiv b)))
      | .rem=>K (.int k (a.tmod b))
      | _=>False
  | _,_=>False
def eqCell:CK→AV→AV→Option Bool
  | .int,.int k x,.int k' y=>if k=k' then some (decide (x=y)) else none
  | .bool,.bool x,.bool y=>some (x == y)
  | .str,.str x,.str y=>some (x.toList == y.toList)
  | _,_,_=>none
def eqAt (a b:List AV):List (Nat × CK)→Option Bool
  | []=>some true
  | (o,c) :: os=>match a[o]?,b[o]?,eqAt a b os with
    | some x,some y,some t=>match eqCell c x y with
      | some r=>some (r && t)
      | none=>none
    | _,_,_=>none
def eqRow:List CK→List AV→List AV→Option Bool
  | [],[],[]=>some true
  | c :: cs,x :: xs,y :: ys=>match eqCell c x y,eqRow cs xs ys with
    | some r,some t=>some (r && t)
    | _,_=>none
  | _,_,_=>none
def keyEq:KK→AV→AV→Option Bool
  | .one c,x,y=>eqCell c x y
  | .row cs,.agg x,.agg y=>eqRow cs x y
  | _,_,_=>none
def findA (k:KK) (x:AV):List (AV × AV)→Option (Option Nat)
  | []=>some none
  | p :: es=>match keyEq k x p.1 with
    | some true=>some (some 0)
    | some false=>match findA k x es with
      | some (some i)=>some (some (i+1))
      | some none=>some none
      | none=>none
    | none=>none
def mapAt (h:Heap):AV→Option (List (AV × AV))
  | .nilmap=>some []
  | .map id=>match h[id]? with
    | some (.other (.map es _ _))=>some es
    | _=>none
  | _=>none
def leftA:List (AV × AV)→List Nat→List Nat→List ((AV × AV) × Nat)
  | p :: es,b :: bs,seen=>if seen.contains b=true then leftA es bs seen else (p,b) :: leftA es bs seen
  | _,_,_=>[]
def entryA:List (AV × AV)→List Nat→Nat→Option (AV × AV)
  | p :: es,b :: bs,s=>if b=s then some p else entryA es bs s
  | _,_,_=>none
def nextAny (x:AV) (h:Heap) (K:AV→Heap→Prop):Prop :=
  match x with
  | .ptr id 0=>match h[id]? with
    | some (.other (.iter none _ _ _))=>K (.tuple [.bool false]) h
    | some (.other (.iter (some m) since seen last))=>match h[m]? with
      | some (.other (.map es bs c))=>(seen.isEmpty || es.isEmpty || !(bs.all fun b=>decide (last≤b)))=true∧match leftA es bs seen with
        | []=>K (.tuple [.bool false]) h
        | x :: r=>∀ y∈x :: r,y.2<since∧K (.tuple [.bool true,y.1.1,y.1.2]) (h.set id (.other (.iter (some m) since (seen++[y.2]) c)))
      | _=>False
    | _=>False
  | _=>False
def AOp.sem (o:AOp) (ev:AOpd→AV) (h:Heap) (K:AV→Heap→Prop):Prop :=
  match o with
  | .mov x=>K (ev x) h
  | .pick c a b=>match ev c with
    | .bool t=>K (if t=true then ev a else ev b) h
    | _=>False
  | .alloc zs=>K (.ptr h.length 0) (h++[.cells zs true])
  | .box x=>match cellsOf (ev x) with
    | some cs=>K (.ptr h.length 0) (h++[.cells cs true])
    | none=>False
  | .build zs parts=>match fillA ev zs parts with
    | some cs=>K (.agg cs) h
    | none=>False
  | .buildSlice zs parts ln sz=>match fillA ev zs parts with
    | some cs=>K (.slice h.length 0 ln sz true) (h++[.cells cs true])
    | none=>False
  | .load1 a=>match ev a with
    | .ptr id off=>match rd h id off 1 with
      | some [v]=>K v h
      | _=>False
    | _=>False
  | .loadN a n=>match ev a with
    | .ptr id off=>match rd h id off n with
      | some vs=>K (.agg vs) h
      | none=>False
    | _=>False
  | .store a n x=>match ev a with
    | .ptr id off=>match cellsOf (ev x) with
      | some vs=>vs.length=n∧vs.all scal=true∧match wr h id off vs with
        | some h'=>K (.tuple []) h'
        | none=>False
      | none=>False
    | _=>False
  | .nilCheck x=>match ev x with
    | .ptr id off=>K (.ptr id off) h
    | .fn (.func f) a b=>K (.fn (.func f) a b) h
    | _=>False
  | .bin op x y=>match op with
    | .quo|.rem=>divA op (ev x) (ev y) (fun v=>K v h)
    | _=>match binA op (ev x) (ev y) with
      | some v=>K v h
      | none=>False
  | .eqCells ng offs x y=>match ev x,ev y with
    | .agg a,.agg b=>match eqAt a b offs with
      | some t=>K (.bool (if ng=true then !t else t)) h
      | none=>False
    | _,_=>False
  | .neg x=>match ev x with
    | .int k n=>K (.int k (k.wrap (0-n))) h
    | _=>False
  | .not x=>match ev x with
    | .bool b=>K (.bool !b) h
    | _=>False
  | .conv k x=>match ev x with
    | .int _ n=>K (.int k (k.wrap n)) h
    | _=>False
  | .mkfn f first caps=>K (.fn f (first.map ev) (caps.map ev)) h
  | .fieldAddr x off=>match ev x with
    | .ptr id o=>K (.ptr id (o+off)) h
    | _=>False
  | .field1 x off=>match ev x with
    | .agg cs=>match cs[off]? with
      | some v=>K v h
      | none=>False
    | _=>False
  | .fieldN x off n=>match ev x with
    | .agg cs=>K (.agg ((cs.drop off).take n)) h
    | _=>False
  | .idxSl x i sz=>match ev x,ev i with
    | .slice id off ln sz' _,.int _ n=>sz'=sz∧0≤n∧n<ln∧K (.ptr id (off+n.toNat * sz)) h
    | _,_=>False
  | .idxArr x i ln sz=>match ev x,ev i with
    | .ptr id off,.int _ n=>0≤n∧n<ln∧K (.ptr id (off+n.toNat * sz)) h
    | _,_=>False
  | .index1 x i ln=>match ev x,ev i with
    | .agg cs,.int _ n=>0≤n∧n<ln∧∃ v,cs[n.toNat]?=some v∧K v h
    | _,_=>False
  | .indexN x i ln sz=>match ev x,ev i with
    | .agg cs,.int _ n=>0≤n∧n<ln∧K (.agg ((cs.drop (n.toNat * sz)).take sz)) h
    | _,_=>False
  | .slice x lo hi sz=>match ev x,(lo.map ev).getD (.int .i64 0) with
    | .slice id off ln sz' ex,.int _ l =>
      match (hi.map ev).getD (.int .i64 ln) with
      | .int _ m=>sz'=sz∧0≤l∧l≤m∧m≤ln∧K (.slice id (off+l.toNat * sz) (m.toNat-l.toNat) sz (ex && decide (m=ln))) h
      | _=>False
    | .nilslice,.int _ l =>
      match (hi.map ev).getD (.int .i64 0) with
      | .int _ m=>l=0∧m=0∧K .nilslice h
      | _=>False
    | _,_=>False
  | .slice3 x lo hi mx sz=>match ev x,(lo.map ev).getD (.int .i64 0),ev hi,ev mx with
    | .slice id off ln sz' _,.int _ l,.int _ m,.int _ c=>sz'=sz∧0≤l∧l≤m∧m≤c∧c≤ln∧K (.slice id (off+l.toNat * sz) (m.toNat-l.toNat) sz (decide (m=c))) h
    | _,_,_,_=>False
  | .extract x i=>match ev x with
    | .tuple vs=>match vs[i]? with
      | some v=>K v h
      | none=>False
    | _=>False
  | .len x=>match ev x with
    | .slice _ _ ln _ _=>K (.int .i64 ln) h
    | .nilslice=>K (.int .i64 0) h
    | _=>False
  | .lenS x=>match ev x with
    | .str s=>K (.int .i64 s.size) h
    | _=>False
  | .append x y sz bytes=>match sliceCells h sz (ev x),sliceCells h sz (ev y) with
    | some (n,old),some (m,new)=>new.all scal=true∧(n+m) * bytes≤140737488355328 ∧
      match ev x with
      | .nilslice=>K (.slice h.length 0 m sz false) (h++[.cells new true])
      | .slice id off _ _ ex=>match h[id]? with
        | some (.cells _ true)=>off=0∧K (.slice h.length 0 (n+m) sz false) (h.set id .dead++[.cells (old++new) true])
        | some (.cells _ false)=>ex=true∧K (.slice h.length 0 (n+m) sz false) (h++[.cells (old++new) (decide (0<m))])
        | _=>False
      | _=>False
    | _,_=>False
  | .min2 x y=>match ev x,ev y with
    | .int k a,.int _ b=>K (.int k (if b<a then b else a)) h
    | _,_=>False
  | .max2 x y=>match ev x,ev y with
    | .int k a,.int _ b=>K (.int k (if a<b then b else a)) h
    | _,_=>False
  | .eqv k ng x y=>match eqvA k (ev x) (ev y) with
    | some t=>K (.bool (if ng=true then !t else t)) h
    | none=>False
  | .shift l x y=>match shiftA l (ev x) (ev y) with
    | some v=>K v h
    | none=>False
  | .capS x=>match ev x with
    | .nilslice=>K (.int .i64 0) h
    | .slice _ _ ln _ true=>K (.int .i64 ln) h
    | _=>False
  | .sIdx x i=>match ev x,ev i with
    | .str s,.int _ n=>0≤n∧match s[n.toNat]? with
      | some b=>K (.int .u8 b.toNat) h
      | none=>False
    | _,_=>False
  | .sSlice x lo hi=>match ev x,(lo.map ev).getD (.int .i64 0) with
    | .str s,.int _ l=>match (hi.map ev).getD (.int .i64 s.size) with
      | .int _ m=>0≤l∧l≤m∧m≤s.size∧K (.str (s.extract l.toNat m.toNat)) h
      | _=>False
    | _,_=>False
  | .makeSl zs sz bytes ln cp=>match ev ln,ev cp with
    | .int _ n,.int _ c=>0≤n∧n≤c∧(bytes:Int) * c≤281474976710656∧c≤9223372036854775807∧K (.slice h.length 0 n.toNat sz (decide (n=c))) (h++[.cells (List.replicate c.toNat zs).flatten true])
    | _,_=>False
  | .appZ zs sz bytes x n=>match ev x,ev n with
    | .nilslice,.int _ m=>0<m∧m.toNat * bytes≤140737488355328∧K (.slice h.length 0 m.toNat sz false) (h++[.cells (List.replicate m.toNat zs).flatten true])
    | _,_=>False
  | .makeMap=>K (.map h.length) (h++[.other (.map [] [] 0)])
  | .mapGet ok z k m i=>(keyEq k (ev i) (ev i)).isSome=true∧match mapAt h (ev m) with
    | some es=>match findA k (ev i) es with
      | some (some n)=>match es[n]? with
        | some p=>K (if ok=true then .tuple [p.2,.bool true] else p.2) h
        | none=>False
      | some none=>K (if ok=true then .tuple [z,.bool false] else z) h
      | none=>False
    | none=>False
  | .mapPut k m i x=>(keyEq k (ev i) (ev i)).isSome=true∧match ev m with
    | .map id=>match h[id]? with
      | some (.other (.map es bs c))=>match findA k (ev i) es with
        | some (some n)=>K (.tuple []) (h.set id (.other (.map (es.set n (ev i,ev x)) bs c)))
        | some none=>K (.tuple []) (h.set id (.other (.map (es++[(ev i,ev x)]) (bs++[c]) (c+1))))
        | none=>False
      | _=>False
    | _=>False
  | .mapDel k m i=>(keyEq k (ev i) (ev i)).isSome=true∧match ev m with
    | .map id=>match h[id]? with
      | some (.other (.map es bs c))=>match findA k (ev i) es with
        | some (some n)=>K (.tuple []) (h.set id (.other (.map (es.eraseIdx n) (bs.eraseIdx n) c)))
        | some none=>K (.tuple []) h
        | none=>False
      | _=>False
    | _=>False
  | .mapClear m=>match ev m with
    | .map id=>match h[id]? with
      | some (.other (.map _ _ c))=>K (.tuple []) (h.set id (.other (.map [] [] c)))
      | _=>False
    | _=>False
  | .lenM m=>match mapAt h (ev m) with
    | some es=>K (.int .i64 es.length) h
    | none=>False
  | .rangeM m=>match ev m with
    | .nilmap=>K (.ptr h.length 0) (h++[.other (.iter none 0 [] 0)])
    | .map id=>match h[id]? with
      | some (.other (.map _ _ c))=>K (.ptr h.length 0) (h++[.other (.iter (some id) c [] c)])
      | _=>False
    | _=>False
  | .nextM i=>match ev i with
    | .ptr id 0=>match h[id]? with
      | some (.other (.iter none _ _ _))=>K (.tuple [.bool false]) h
      | some (.other (.iter (some m) since seen last))=>match h[m]? with
        | some (.other (.map es bs c))=>(seen.isEmpty || es.isEmpty || !(bs.all fun b=>decide (last≤b)))=true∧match leftA es bs seen with
          | []=>K (.tuple [.bool false]) h
          | [(p,b)]=>b<since∧K (.tuple [.bool true,p.1,p.2]) (h.set id (.other (.iter (some m) since (seen++[b]) c)))
          | _=>False
        | _=>False
      | _=>False
    | _=>False
  | .entryM i=>match ev i with
    | .ptr id 0=>match h[id]? with
      | some (.other (.iter (some m) _ seen last))=>match seen.getLast? with
        | some b=>match h[m]? with
          | some (.other (.map es bs c))=>c=last∧match entryA es bs b with
            | some p=>K (.tuple [p.1,p.2]) h
            | none=>False
          | _=>False
        | none=>False
      | _=>False
    | _=>False
  | .bad=>False
  | .callF _ _|.callV _ _=>False
theorem next_any {i:AOpd} {ev:AOpd→AV} {h:Heap} {K:AV→Heap→Prop} (hs:(AOp.nextM i).sem ev h K):nextAny (ev i) h K:=by
  simp only [AOp.sem] at hs
  unfold nextAny
  split at hs
  · split at hs
    · exact hs
    · split at hs
      · refine⟨hs.1,?_⟩
        have h2:=hs.2
        split at h2
        · rename_i hl;rw [hl];exact h2
        · rename_i hl
          rw [hl]
          intro y hy
          simp only [List.mem_singleton] at hy
          subst hy;exact h2
        · cases h2
      · cases hs
    · cases hs
  · cases hs
def AOp.semN (o:AOp) (ev:AOpd→AV) (h:Heap) (K:AV→Heap→Prop):Prop :=
  match o with
  | .nextM i=>nextAny (ev i) h K
  | o=>o.sem ev h K
theorem semN_of {o:AOp} {ev:AOpd→AV} {h:Heap} {K:AV→Heap→Prop} (hs:o.sem ev h K):o.semN ev h K:=by
  cases o <;> first|exact hs|exact next_any hs
def scalarAV:Value→Option AV
  | .bool b=>some (.bool b)
  | .int k n=>some (.int k n)
  | .string s=>some (.str s)
  | .pointer none=>some .nil
  | .slice none 0 0=>some .nilslice
  | .map none=>some .nilmap
  | .nilFunc=>some .nilfn
  | .nilIface=>some .niliface
  | _=>none
def scalarsAV:List Value→Option (List AV)
  | []=>some []
  | v :: vs=>match scalarAV v,scalarsAV vs with
    | some a,some as=>some (a :: as)
    | _,_=>none
def constAV:Value→Option AV
  | .agg cs=>(scalarsAV cs.toList).map .agg
  | v=>scalarAV v
def copd:Operand→Option AOpd
  | .tmp i=>some (.t i)
  | .const v=>(constAV v).map .c
  | .func f=>some (.c (.fn (.func f) [] []))
  | .global _=>none
def copds:List Operand→Option (List AOpd)
  | []=>some []
  | x :: xs=>match copd x,copds xs with
    | some a,some as=>some (a :: as)
    | _,_=>none
section
variable (P:Program)
def tyZero (t:TypeId):Option (List AV):=match P.info? t with
  | some i=>match i.zero with
    | some z=>scalarsAV z.cells.toList
    | none=>none
  | none=>none
def tySize (t:TypeId):Option Nat:=(P.info? t).map (·.size)
def tyAgg (t:TypeId):Option Bool:=match P.underlying t with
  | some (.struct _)|some (.array _ _)=>some true
  | some _=>some false
  | none=>none
def placesOf (t:TypeId):Option (Nat→Option (Nat × Nat)):=match P.underlying t with
  | some (.struct fields)=>match fields.toList.mapM (fun f=>(P.info? f.type).map fun i=>(f.offset,i.size)) with
    | some places=>some (fun i=>places[i]?)
    | none=>none
  | some (.array _ e)=>match P.info? e with
    | some ie=>some (fun i=>some (i * ie.size,ie.size))
    | none=>none
  | _=>none
def cparts (place:Nat→Option (Nat × Nat)):List (Nat × Operand)→Option (List (Nat × Nat × AOpd))
  | []=>some []
  | (i,x) :: r=>match place i,copd x,cparts place r with
    | some (off,n),some a,some as=>some ((off,n,a) :: as)
    | _,_,_=>none
def eqOffs:Nat→TypeId→Option (List (Nat × CK))
  | 0,_=>none
  | n+1,t=>match P.underlying t with
    | some (.int _)=>if tySize P t=some 1 then some [(0,.int)] else none
    | some .bool=>if tySize P t=some 1 then some [(0,.bool)] else none
    | some .string=>if tySize P t=some 1 then some [(0,.str)] else none
    | some (.struct fields)=>if P.stoodInHeld t then none else fields.toList.foldr (fun f r=>match eqOffs n f.type,tySize P f.type,r with
        | some os,some sz,some r=>if f.name≠"_"∧os.all (fun o=>decide (o.1<sz))=true then some (os.map (fun o=>(f.offset+o.1,o.2))++r) else none
        | _,_,_=>none) (some [])
    | some (.array m e)=>match eqOffs n e,tySize P e with
      | some os,some sz=>if os.all (fun o=>decide (o.1<sz))=true then some ((List.range m).flatMap fun i=>os.map (fun o=>(i * sz+o.1,o.2))) else none
      | _,_=>none
    | _=>none
def keyKind (t:TypeId):Option KK:=match P.underlying t with
  | some (.int _)=>some (.one .int)
  | some .bool=>some (.one .bool)
  | some .string=>some (.one .str)
  | some (.struct _)|some (.array _ _)=>match eqOffs P 20 t with
    | some os=>if os.map (·.1)=List.range os.length∧tyAgg P t=some true then some (.row (os.map (·.2))) else none
    | none=>none
  | _=>none
def mapKind (t:TypeId):Option (KK × AV):=match P.underlying t with
  | some (.map k e)=>match keyKind P k,(P.info? e).bind (·.zero) with
    | some kk,some z=>match constAV z with
      | some z=>some (kk,z)
      | none=>none
    | _,_=>none
  | _=>none
def guardFun (f:FuncId):Bool:=match P.funcs[f]? with
  | some fn=>fn.body.isSome && fn.name != "runtime.NumGoroutine"
  | none=>false
def cop (o:Oper):Option AOp :=
  match o.op with
  | .move x|.assign x=>(copd x).map .mov
  | .pick c a b=>match copd c,copd a,copd b with
    | some c,some a,some b=>some (.pick c a b)
    | _,_,_=>none
  | .alloc e=>(tyZero P e).map .alloc
  | .box _ x=>(copd x).map .box
  | .build t parts=>match P.info? t,tyZero P t,placesOf P t with
    | some _,some zs,some pl=>(cparts pl parts.toList).map (.build zs)
    | _,_,_=>none
  | .buildSlice t len parts=>match P.underlying t with
    | some (.slice e)=>match tySize P e,tyZero P e with
      | some sz,some zs=>if 0<sz∧zs.length=sz∧len * sz≤2 ^ 24 then (cparts (fun i=>some (i * sz,sz)) parts.toList).map fun ps=>.buildSlice (List.replicate len zs).flatten ps len sz else none
      | _,_=>none
    | _=>none
  | .load t a=>match tyAgg P t,tySize P t,copd a with
    | some true,some n,some a=>some (.loadN a n)
    | some false,some _,some a=>some (.load1 a)
    | _,_,_=>none
  | .store t a x=>match tySize P t,copd a,copd x with
    | some n,some a,some x=>if 0<n then some (.store a n x) else none
    | _,_,_=>none
  | .nilCheck x=>(copd x).map .nilCheck
  | .binOp op t x y _=>match copd x,copd y with
    | some x,some y=>match op with
      | .eql|.neq=>match P.underlying t with
        | some (.int _)|some .string=>some (.bin op x y)
        | some .bool=>some (.eqv .bool (op matches .neq) x y)
        | some (.slice _)=>some (.eqv .slice (op matches .neq) x y)
        | some (.pointer _)=>some (.eqv .ptr (op matches .neq) x y)
        | some (.func _ _ _)=>some (.eqv .func (op matches .neq) x y)
        | some (.map _ _)=>some (.eqv .map (op matches .neq) x y)
        | some (.struct _)|some (.array _ _)=>match eqOffs P 20 t with
          | some offs=>if P.eqGuardType P.depth t∨tyAgg P t≠some true then none else some (.eqCells (op matches .neq) offs x y)
          | none=>none
        | _=>none
      | .shl=>some (.shift true x y)
      | .shr=>some (.shift false x y)
      | _=>some (.bin op x y)
    | _,_=>none
  | .unOp op _ x=>match op,copd x with
    | .neg,some x=>some (.neg x)
    | .not,some x=>some (.not x)
    | _,_=>none
  | .convert s t x=>match P.underlying s,P.underlying t,copd x with
    | some (.int _),some (.int k),some x=>some (.conv k x)
    | _,_,_=>none
  | .makeFunc f first caps=>match copds first.toList,copds caps.toList with
    | some a,some b=>some (.mkfn f a b)
    | _,_=>none
  | .fieldAddr s x f=>match P.underlying s,copd x with
    | some (.struct fields),some x=>match fields[f]? with
      | some fl=>match tySize P fl.type with
        | some n=>if 0<n then some (.fieldAddr x fl.offset) else none
        | none=>none
      | none=>none
    | _,_=>none
  | .field s x f=>match P.underlying s,copd x with
    | some (.struct fields),some x=>match fields[f]? with
      | some fl=>match tyAgg P fl.type,tySize P fl.type with
        | some true,some n=>some (.fieldN x fl.offset n)
        | some false,some _=>some (.field1 x fl.offset)
        | _,_=>none
      | none=>none
    | _,_=>none
  | .indexAddr t x i=>match P.underlying t,copd x,copd i with
    | some (.slice e),some x,some i=>(tySize P e).map (.idxSl x i)
    | some (.array n e),some x,some i=>(tySize P e).map (.idxArr x i n)
    | _,_,_=>none
  | .index t x i=>match P.underlying t,copd x,copd i with
    | some (.array n e),some x,some i=>match tyAgg P e,tySize P e with
      | some true,some sz=>some (.indexN x i n sz)
      | some false,some 1=>some (.index1 x i n)
      | _,_=>none
    | some .string,some x,some i=>some (.sIdx x i)
    | _,_,_=>none
  | .makeMap _ none=>some .makeMap
  | .lookup t m i ok=>match mapKind P t,copd m,copd i with
    | some (k,z),some m,some i=>some (.mapGet ok z k m i)
    | _,_,_=>none
  | .mapUpdate t m i x|.insert t m i x=>match mapKind P t,copd m,copd i,copd x with
    | some (k,_),some m,some i,some x=>some (.mapPut k m i x)
    | _,_,_,_=>none
  | .range t x=>match P.underlying t,copd x with
    | some (.map _ _),some x=>some (.rangeM x)
    | _,_=>none
  | .next it false=>(copd it).map .nextM
  | .entry it=>(copd it).map .entryM
  | .makeSlice t ln cp=>match P.underlying t,copd ln,copd cp with
    | some (.slice e),some ln,some cp=>match P.info? e,tyZero P e with
      | some i,some zs=>if zs.length=i.size∧0<i.size then some (.makeSl zs i.size i.bytes ln cp) else none
      | _,_=>none
    | _,_,_=>none
  | .slice t x lo hi mx=>match P.underlying t,copd x with
    | some .string,some x=>match lo.map copd,hi.map copd,mx with
      | some none,_,_|_,some none,_=>none
      | l,m,none=>some (.sSlice x (l.bind id) (m.bind id))
      | _,_,_=>none
    | some (.slice e),some x=>match tySize P e with
      | some sz =>
        let lo':=lo.map copd
        let hi':=hi.map copd
        match lo',hi',mx.map copd with
        | some none,_,_|_,some none,_|_,_,some none=>none
        | l,m,none=>some (.slice x (l.bind id) (m.bind id) sz)
        | l,some (some m),some (some c)=>some (.slice3 x (l.bind id) m c sz)
        | _,none,some _=>none
      | none=>none
    | _,_=>none
  | .extract x i=>(copd x).map (.extract · i)
  | .call c=>match c.callee with
    | .builtin .len=>match c.args.toList,c.argTypes.toList with
      | [x],[t]=>match P.underlying t with
        | some (.slice _)=>(copd x).map .len
        | some .string=>(copd x).map .lenS
        | some (.map _ _)=>(copd x).map .lenM
        | _=>none
      | _,_=>none
    | .builtin .delete=>match c.args.toList,c.argTypes.toList with
      | [m,i],t :: _=>match mapKind P t,copd m,copd i with
        | some (k,_),some m,some i=>some (.mapDel k m i)
        | _,_,_=>none
      | _,_=>none
    | .builtin .clear=>match c.args.toList,c.argTypes.toList with
      | [m],[t]=>match P.underlying t with
        | some (.map _ _)=>(copd m).map .mapClear
        | _=>none
      | _,_=>none
    | .builtin .cap=>match c.args.toList,c.argTypes.toList with
      | [x],[t]=>match P.underlying t with
        | some (.slice _)=>(copd x).map .capS
        | _=>none
      | _,_=>none
    | .builtin .append=>match c.args.toList,c.argTypes.toList with
      | [x,y],[t,u]=>if t=u then match P.underlying t with
          | some (.slice e)=>match P.info? e,tyZero P e,copd x,copd y with
            | some i,some zs,some x,some y=>if zs.length=i.size∧0<i.size∧0<i.bytes then some (.append x y i.size i.bytes) else none
            | _,_,_,_=>none
          | _=>none
        else match P.underlying t,P.underlying u with
          | some (.slice e),some (.int _)=>match P.info? e,tyZero P e,copd x,copd y with
            | some i,some zs,some x,some y=>if zs.length=i.size∧0<i.size∧0<i.bytes then some (.appZ zs i.size i.bytes x y) else none
            | _,_,_,_=>none
          | _,_=>none
      | _,_=>none
    | .builtin .min=>match copds c.args.toList with
      | some [x,y]=>some (.min2 x y)
      | _=>none
    | .builtin .max=>match copds c.args.toList with
      | some [x,y]=>some (.max2 x y)
      | _=>none
    | .builtin _=>none
    | .invoke _ _=>none
    | .value (.func f)=>if guardFun P f then (copds c.args.toList).map (.callF f) else none
    | .value f=>match copd f,copds c.args.toList with
      | some f,some as=>some (.callV f as)
      | _,_=>none
  | _=>none
end
def AOp.cls:AOp→Nat
  | .load1 _|.loadN _ _|.mapGet _ _ _ _ _|.lenM _|.entryM _=>1
  | .alloc _|.box _|.buildSlice _ _ _ _|.makeSl _ _ _ _ _|.makeMap=>2
  | .store _ _ _|.append _ _ _ _|.appZ _ _ _ _ _|.mapPut _ _ _ _|.mapDel _ _ _|.mapClear _|.rangeM _|.nextM _|.callF _ _|.callV _ _=>3
  | _=>0
def opdSlots:AOpd→List Nat
  | .t i=>[i]
  | .c _=>[]
def opdsSlots:List AOpd→List Nat
  | []=>[]
  | x :: xs=>opdSlots x++opdsSlots xs
def partSlots:List (Nat × Nat × AOpd)→List Nat
  | []=>[]
  | (_,_,x) :: xs=>opdSlots x++partSlots xs
def AOp.slots:AOp→List Nat
  | .mov x|.box x|.load1 x|.loadN x _|.nilCheck x|.neg x|.not x|.conv _ x|.fieldAddr x _|.field1 x _|.fieldN x _ _|.extract x _|.len x|.lenS x=>opdSlots x
  | .pick a b c=>opdSlots a++opdSlots b++opdSlots c
  | .alloc _|.bad=>[]
  | .eqv _ _ x y|.shift _ x y|.sIdx x y|.makeSl _ _ _ x y|.appZ _ _ _ x y=>opdSlots x++opdSlots y
  | .capS x|.mapClear x|.lenM x|.rangeM x|.nextM x|.entryM x=>opdSlots x
  | .makeMap=>[]
  | .mapGet _ _ _ x y|.mapDel _ x y=>opdSlots x++opdSlots y
  | .mapPut _ x y z=>opdSlots x++opdSlots y++opdSlots z
  | .sSlice x lo hi=>opdSlots x++opdsSlots lo.toList++opdsSlots hi.toList
  | .build _ ps|.buildSlice _ ps _ _=>partSlots ps
  | .store x _ y|.bin _ x y|.eqCells _ _ x y|.idxSl x y _|.idxArr x y _ _|.index1 x y _|.indexN x y _ _|.append x y _ _|.min2 x y|.max2 x y=>opdSlots x++opdSlots y
  | .mkfn _ a b=>opdsSlots a++opdsSlots b
  | .slice x lo hi _=>opdSlots x++opdsSlots lo.toList++opdsSlots hi.toList
  | .slice3 x lo hi mx _=>opdSlots x++opdsSlots lo.toList++opdSlots hi++opdSlots mx
  | .callF _ as=>opdsSlots as
  | .callV f as=>opdSlots f++opdsSlots as
def AO.slots (o:AO):List Nat:=o.op.slots++(match o.guard with|some (g,_)=>[g]|none=>[])
def AOp.isCall:AOp→Bool
  | .callF _ _|.callV _ _=>true
  | _=>false
def cguard (ops:Array Oper) (o:Oper):Option (Option (Nat × Bool)) :=
  match o.guard with
  | none=>some none
  | some (j,want)=>match ((ops[j]?).bind (·.dst)) with
    | some d=>some (some (d,want))
    | none=>none
def cCall (P:Program) (o:Oper):Option AOp :=
  match o.op with
  | .call ⟨.value (.func f),args,_⟩=>if guardFun P f=true then (copds args.toList).map (.callF f) else none
  | .call ⟨.value (.tmp i),args,_⟩=>(copds args.toList).map (.callV (.t i))
  | _=>none
def cOp (P:Program) (o:Oper):Option AOp :=
  match cCall P o with
  | some op=>some op
  | none=>match cop P o with
    | some op=>if op.isCall=true then none else some op
    | none=>some .bad
def dstOk (sz:Nat):Option Nat→Bool
  | some d=>decide (d<sz)
  | none=>true
def cAO (P:Program) (sz:Nat) (ops:Array Oper) (o:Oper):Option AO :=
  match cOp P o,cguard ops o with
  | some op,some g=>if dstOk sz o.dst=true then some ⟨o.dst,op,g⟩ else none
  | _,_=>none
def cAOs (P:Program) (sz:Nat) (ops:Array Oper):List Oper→Option (List AO)
  | []=>some []
  | o :: os=>match cAO P sz ops o,cAOs P sz ops os with
    | some a,some as=>some (a :: as)
    | _,_=>none
def pr (ps:List (List Nat)) (i:Nat):List Nat:=ps.getD i []
def AC.erase:AC→AC
  | .ops l _=>.ops l none
  | .draw l ps _=>.draw l ps none
  | .seq a b=>.seq a.erase b.erase
  | .cond c a b=>.cond c a.erase b.erase
  | .block id a=>.block id a.erase
  | .loop a=>.loop a.erase
  | .scope a=>.scope a.erase
  | .rangeFunc f ps a b=>.rangeFunc f ps a.erase b.erase
  | c=>c
def predsOf (ops:Array Oper):List (List Nat) :=
  ops.toList.foldl (fun acc o =>
    let d:=(o.after.toList.filter (Region.binds .any ·)).map (·.on)
    acc++[(d++d.flatMap fun k=>acc.getD k []).eraseDups]) []
def preOK (ops:Array Oper) (ps:List (List Nat)):Bool :=
  (List.range ops.size).all fun i=>match ops[i]? with
    | some o=>(pr ps i).all fun k=>decide (k<i) && ((o.after.toList.any fun e=>Region.binds .any e && decide (e.on=k)) || (o.after.toList.any fun e=>Region.binds .any e && decide (k∈pr ps e.on)))
    | none=>true
def pairOK (ps:List (List Nat)) (i j:Nat) (oi oj:AO):Bool :=
  (decide (i=j) || (match oi.dst with|some d=>!decide (oj.dst=some d)|none=>true)) &&
  (match oj.dst with|some d=>!decide (d∈oi.slots) || (decide (j∈pr ps i) || decide (i∈pr ps j))|none=>true) &&
  (!(decide (i<j) && (decide (2≤oi.op.cls) && decide (oj.op.cls=3))) || decide (i∈pr ps j))
def pairsOK (al:List AO) (ps:List (List Nat)):Bool :=
  (List.range al.length).all fun i=>(List.range al.length).all fun j=>match al[i]?,al[j]? with
    | some oi,some oj=>pairOK ps i j oi oj
    | _,_=>true
def ordOK (m:Region.Mode) (ops:Array Oper):List Nat→List Nat→Bool
  | [],seen=>(List.range ops.size).all fun i=>seen.contains i
  | i :: r,seen=>(match ops[i]? with
    | some o=>o.after.toList.all fun e=>!Region.binds m e || seen.contains e.on
    | none=>false) && ordOK m ops r (i :: seen)
def drawOrders (ops:Array Oper):Bool :=
  ordOK .any ops (List.range ops.size) [] && (!Region.departs ops || (ordOK .text ops (List.range ops.size) [] && ordOK .gc ops (Region.linearise .gc ops 0) []))
def comp (P:Program) (sz:Nat):Code→Option AC
  | .skip=>some .skip
  | .label _=>some .skip
  | .region _ ops false=>(cAOs P sz ops ops.toList).map (.ops · none)
  | .region _ ops true=>match cAOs P sz ops ops.toList with
    | some al=>if drawOrders ops=true∧preOK ops (predsOf ops)=true∧pairsOK al (predsOf ops)=true then some (.draw al (predsOf ops) none) else none
    | none=>none
  | .seq a b=>match comp P sz a,comp P sz b with
    | some x,some y=>some (.seq x y)
    | _,_=>none
  | .cond c a b=>match copd c,comp P sz a,comp P sz b with
    | some c,some x,some y=>some (.cond c x y)
    | _,_,_=>none
  | .block id a=>(comp P sz a).map (.block id)
  | .loop a=>(comp P sz a).map .loop
  | .scope a=>(comp P sz a).map .scope
  | .exit id=>some (.exit id)
  | .ret=>some .ret
  | .rangeFunc f ps a b=>match copd f,comp P sz a,comp P sz b with
    | some f,some x,some y=>if (ps.toList.all fun p=>decide (p<sz))=true then some (.rangeFunc f ps.toList x y) else none
    | _,_,_=>none
  | _=>some .bad
end Go.Abs
/- The abstract memory: values and objects,and how they stand for a world of the model. -/
namespace Go.Abs
open Go.RowKit
variable {P:Program}
def Ext (σ σ':Sg):Prop:=σ.length≤σ'.length∧∀ (i:Nat) (l:Loc),σ[i]?=some (some l)→σ'[i]?=some (some l)
theorem Ext.refl (σ:Sg):Ext σ σ:=⟨Nat.le_refl _,fun _ _ h=>h⟩
theorem Ext.trans {a b c:Sg} (h:Ext a b) (k:Ext b c):Ext a c:=⟨Nat.le_trans h.1 k.1,fun _ _ x=>k.2 _ _ (h.2 _ _ x)⟩
theorem Ext.app (σ τ:Sg):Ext σ (σ++τ):=⟨by simp,fun i l h=>by
  have hi:i<σ.length:=by
    rcases Nat.lt_or_ge i σ.length with h'|h'
    · exact h'
    · simp [List.getElem?_eq_none h'] at h
  rw [List.getElem?_append_left hi];exact h⟩
mutual
theorem Rel.mono {σ σ':Sg} (h:Ext σ σ'):∀ (a:AV) (v:Value),Rel σ a v→Rel σ' a v
  | .bool _,_,r|.int _ _,_,r|.str _,_,r|.nil,_,r|.nilslice,_,r|.nilmap,_,r|.nilfn,_,r|.niliface,_,r|.junk,_,r=>r
  | .ptr _ _,_,⟨l,h1,h2⟩=>⟨l,h.2 _ _ h1,h2⟩
  | .map _,_,⟨l,h1,h2⟩=>⟨l,h.2 _ _ h1,h2⟩
  | .yield _,_,⟨l,h1,h2⟩=>⟨l,h.2 _ _ h1,h2⟩
  | .slice _ _ _ _ _,_,.inl ⟨h1,h2⟩=>.inl ⟨Nat.lt_of_lt_of_le h1 h.1,h2⟩
  | .slice _ _ _ _ _,_,.inr ⟨l,o,c,h1,h2⟩=>.inr ⟨l,o,c,h.2 _ _ h1,h2⟩
  | .fn _ fs cs,_,⟨a,b,h1,h2,h3⟩=>⟨a,b,h1,RelL.mono h fs _ h2,RelL.mono h cs _ h3⟩
  | .iface _ x,_,⟨c,h1,h2⟩=>⟨c,h1,Rel.mono h x _ h2⟩
  | .agg cs,_,⟨a,h1,h2⟩=>⟨a,h1,RelL.mono h cs _ h2⟩
  | .tuple cs,_,⟨a,h1,h2⟩=>⟨a,h1,RelL.mono h cs _ h2⟩
theorem RelL.mono {σ σ':Sg} (h:Ext σ σ'):∀ (a:List AV) (v:List Value),RelL σ a v→RelL σ' a v
  | [],_,r=>r
  | a :: as,_,⟨v,vs,h1,h2,h3⟩=>⟨v,vs,h1,Rel.mono h a v h2,RelL.mono h as vs h3⟩
end
theorem RelL.length {σ:Sg}:∀ {as:List AV} {vs:List Value},RelL σ as vs→as.length=vs.length
  | [],_,h=>by simp only [RelL] at h;subst h;rfl
  | _ :: as,_,h=>by
    simp only [RelL] at h
    obtain⟨v,vs,rfl,_,h⟩:=h
    simp [RelL.length h]
theorem RelL.get {σ:Sg}:∀ {as:List AV} {vs:List Value},RelL σ as vs→∀ {j:Nat} {a:AV},as[j]?=some a→∃ v,vs[j]?=some v∧Rel σ a v
  | [],_,_,j,a,hj=>by simp at hj
  | a :: as,_,h,0,b,hj=>by
    simp only [RelL] at h
    obtain⟨v,vs,rfl,hr,_⟩:=h
    simp only [List.getElem?_cons_zero,Option.some.injEq] at hj;subst hj
    exact⟨v,rfl,hr⟩
  | a :: as,_,h,j+1,b,hj=>by
    simp only [RelL] at h
    obtain⟨v,vs,rfl,_,hr⟩:=h
    simp only [List.getElem?_cons_succ] at hj
    obtain⟨u,h1,h2⟩:=RelL.get hr hj
    exact⟨u,by simpa using h1,h2⟩
theorem RelL.of_get {σ:Sg}:∀ {as:List AV} {vs:List Value},as.length=vs.length→(∀ (j:Nat) (a:AV) (v:Value),as[j]?=some a→vs[j]?=some v→Rel σ a v)→RelL σ as vs
  | [],[],_,_=>rfl
  | a :: as,v :: vs,hl,h=>⟨v,vs,rfl,h 0 a v rfl rfl,RelL.of_get (by simpa using hl) (fun j b u h1 h2=>h (j+1) b u (by simpa using h1) (by simpa using h2))⟩
  | [],_ :: _,hl,_=>by simp at hl
  | _ :: _,[],hl,_=>by simp at hl
theorem RelL.append {σ:Sg}:∀ {as bs:List AV} {us vs:List Value},RelL σ as us→RelL σ bs vs→RelL σ (as++bs) (us++vs)
  | [],_,_,_,h,k=>by simp only [RelL] at h;subst h;exact k
  | a :: as,_,_,_,h,k=>by
    simp only [RelL] at h
    obtain⟨v,vs,rfl,h1,h2⟩:=h
    exact⟨v,_,rfl,h1,RelL.append h2 k⟩
theorem RelL.take {σ:Sg}:∀ {as:List AV} {us:List Value} (n:Nat),RelL σ as us→RelL σ (as.take n) (us.take n)
  | [],_,n,h=>by simp only [RelL] at h;subst h;simp [RelL]
  | a :: as,_,0,h=>by simp [RelL]
  | a :: as,_,n+1,h=>by
    simp only [RelL] at h
    obtain⟨v,vs,rfl,h1,h2⟩:=h
    exact⟨v,_,rfl,h1,RelL.take n h2⟩
theorem RelL.drop {σ:Sg}:∀ {as:List AV} {us:List Value} (n:Nat),RelL σ as us→RelL σ (as.drop n) (us.drop n)
  | [],_,n,h=>by simp only [RelL] at h;subst h;simp [RelL]
  | a :: as,_,0,h=>by simpa using h
  | a :: as,_,n+1,h=>by
    simp only [RelL] at h
    obtain⟨v,vs,rfl,h1,h2⟩:=h
    simpa using RelL.drop n h2
mutual
def AV.ren (ρ:Nat→Nat):AV→AV
  | .ptr id off=>.ptr (ρ id) off
  | .slice id off len sz ex=>.slice (ρ id) off len sz ex
  | .map id=>.map (ρ id)
  | .yield id=>.yield (ρ id)
  | .fn f a b=>.fn f (renL ρ a) (renL ρ b)
  | .iface t v=>.iface t (v.ren ρ)
  | .agg cs=>.agg (renL ρ cs)
  | .tuple cs=>.tuple (renL ρ cs)
  | v=>v
def renL (ρ:Nat→Nat):List AV→List AV
  | []=>[]
  | v :: vs=>v.ren ρ :: renL ρ vs
end
mutual
def AV.sc (m:Nat):AV→Bool
  | .ptr id _=>id<m
  | .slice id _ _ _ _=>id<m
  | .map id=>id<m
  | .yield id=>id<m
  | .fn _ a b=>scL m a && scL m b
  | .iface _ v=>v.sc m
  | .agg cs=>scL m cs
  | .tuple cs=>scL m cs
  | _=>true
def scL (m:Nat):List AV→Bool
  | []=>true
  | v :: vs=>v.sc m && scL m vs
end
def tRen (ρ:Nat→Nat) (t:List (Nat × AV)):List (Nat × AV):=t.map fun x=>(x.1,x.2.ren ρ)
def tSc (m:Nat) (t:List (Nat × AV)):Bool:=t.all fun x=>x.2.sc m
def OObj.ren (ρ:Nat→Nat):OObj→OObj
  | .map es bs c=>.map (es.map fun p=>(p.1.ren ρ,p.2.ren ρ)) bs c
  | .iter m since seen last=>.iter (m.map ρ) since seen last
  | .loop t ps a b ph=>.loop (tRen ρ t) ps a b ph
def OObj.sc (m:Nat):OObj→Bool
  | .map es _ _=>es.all fun p=>p.1.sc m && p.2.sc m
  | .iter i _ _ _=>match i with
    | some id=>decide (id<m)
    | none=>true
  | .loop t _ _ _ _=>tSc m t
def AObj.ren (ρ:Nat→Nat):AObj→AObj
  | .cells vs own=>.cells (renL ρ vs) own
  | .other x=>.other (x.ren ρ)
  | .dead=>.dead
def AObj.sc (m:Nat):AObj→Bool
  | .cells vs _=>scL m vs
  | .other x=>x.sc m
  | .dead=>true
mutual
theorem sc_mono {m m':Nat} (h:m≤m'):∀ (v:AV),v.sc m=true→v.sc m'=true
  | .bool _,_|.int _ _,_|.str _,_|.nil,_|.nilslice,_|.nilmap,_|.nilfn,_|.niliface,_|.junk,_=>rfl
  | .ptr id off,k=>by simp only [AV.sc,decide_eq_true_eq] at k ⊢;omega
  | .slice id _ _ _ _,k=>by simp only [AV.sc,decide_eq_true_eq] at k ⊢;omega
  | .map id,k=>by simp only [AV.sc,decide_eq_true_eq] at k ⊢;omega
  | .yield id,k=>by simp only [AV.sc,decide_eq_true_eq] at k ⊢;omega
  | .fn f a b,k=>by simp only [AV.sc,Bool.and_eq_true] at k ⊢;exact⟨scL_mono h a k.1,scL_mono h b k.2⟩
  | .iface t v,k=>by simp only [AV.sc] at k ⊢;exact sc_mono h v k
  | .agg cs,k=>by simp only [AV.sc] at k ⊢;exact scL_mono h cs k
  | .tuple cs,k=>by simp only [AV.sc] at k ⊢;exact scL_mono h cs k
theorem scL_mono {m m':Nat} (h:m≤m'):∀ (vs:List AV),scL m vs=true→scL m' vs=true
  | [],_=>rfl
  | v :: vs,k=>by simp only [scL,Bool.and_eq_true] at k ⊢;exact⟨sc_mono h v k.1,scL_mono h vs k.2⟩
end
theorem tSc_mono {m m':Nat} (h:m≤m') {t:List (Nat × AV)} (k:tSc m t=true):tSc m' t=true :=
  List.all_eq_true.2 fun x hx=>sc_mono h _ (List.all_eq_true.1 k x hx)
theorem osc_mono {m m':Nat} (h:m≤m'):∀ (x:OObj),x.sc m=true→x.sc m'=true
  | .map es _ _,k=>List.all_eq_true.2 fun x hx=>by
    have:=List.all_eq_true.1 k x hx
    simp only [Bool.and_eq_true] at this ⊢
    exact⟨sc_mono h _ this.1,sc_mono h _ this.2⟩
  | .iter none _ _ _,_=>rfl
  | .iter (some id) _ _ _,k=>by
    simp only [OObj.sc,decide_eq_true_eq] at k ⊢;omega
  | .loop t _ _ _ _,k=>tSc_mono h k
theorem get_some_lt {α:Type} {l:List α} {i:Nat} {a:α} (h:l[i]?=some a):i<l.length:=by
  rcases Nat.lt_or_ge i l.length with h'|h'
  · exact h'
  · simp [List.getElem?_eq_none h'] at h
mutual
theorem rel_sc {σ:Sg}:∀ (v:AV) (c:Value),Rel σ v c→v.sc σ.length=true
  | .bool _,_,_|.int _ _,_,_|.str _,_,_|.nil,_,_|.nilslice,_,_|.nilmap,_,_|.nilfn,_,_|.niliface,_,_|.junk,_,_=>rfl
  | .ptr id off,_,⟨l,h1,h2⟩=>by simp only [AV.sc,decide_eq_true_eq];exact get_some_lt h1
  | .map id,_,⟨l,h1,h2⟩=>by simp only [AV.sc,decide_eq_true_eq];exact get_some_lt h1
  | .yield id,_,⟨l,h1,h2⟩=>by simp only [AV.sc,decide_eq_true_eq];exact get_some_lt h1
  | .slice id _ _ _ _,_,.inl ⟨h1,h2⟩=>by simp only [AV.sc,decide_eq_true_eq];exact h1
  | .slice id _ _ _ _,_,.inr ⟨l,o,c,h1,h2⟩=>by simp only [AV.sc,decide_eq_true_eq];exact get_some_lt h1
  | .fn _ fs cs,_,⟨a,b,h1,h2,h3⟩=>by simp only [AV.sc,relL_sc fs _ h2,relL_sc cs _ h3,Bool.and_self]
  | .iface _ x,_,⟨c,h1,h2⟩=>by simp only [AV.sc,rel_sc x c h2]
  | .agg cs,_,⟨a,h1,h2⟩=>by simp only [AV.sc,relL_sc cs _ h2]
  | .tuple cs,_,⟨a,h1,h2⟩=>by simp only [AV.sc,relL_sc cs _ h2]
theorem relL_sc {σ:Sg}:∀ (vs:List AV) (cs:List Value),RelL σ vs cs→scL σ.length vs=true
  | [],_,_=>rfl
  | v :: vs,_,⟨c,cs,h1,h2,h3⟩=>by simp only [scL,rel_sc v c h2,relL_sc vs cs h3,Bool.and_self]
end
def TOK (σ:Sg) (t:List (Nat × AV)) (a:Act):Prop:=∀ k,Rel σ (lk t k) (a.tmps.getD k undef)
def RelE (σ:Sg):List (AV × AV)→List MapEntry→Prop
  | [],l=>l=[]
  | (k,v) :: es,l=>∃ e l',l=e :: l'∧Rel σ k e.key∧Rel σ v e.val∧RelE σ es l'
def PhOK:Phase→Loop→Prop
  | .ready,r=>r.state=.ready∧r.pending=none
  | .busy,r=>r.state=.busy
  | .done j,r=>r.state=.done∧r.pending=some j.code
def OOK (P:Program) (σ:Sg):OObj→Option Obj→Prop
  | .map es bs c,o=>∃ (arr:Array MapEntry),o=some (.map arr c)∧RelE σ es arr.toList∧arr.toList.map (·.born)=bs
  | .iter m since seen last,o=>∃ m',o=some (.mapIter m' since seen.toArray last)∧((m=none∧m'=none)∨∃ id l,m=some id∧σ[id]?=some (some l)∧m'=some l.blk)
  | .loop t ps a b ph,o=>∃ r:Loop,o=some (.loop r)∧TOK σ t { tmps:=r.tmps,defers:=[] }∧r.params.toList=ps∧(ps.all fun p=>decide (p<r.tmps.size))=true ∧
      comp P r.tmps.size r.assign=some a.erase∧comp P r.tmps.size r.body=some b.erase∧PhOK ph r∧tSc σ.length t=true
theorem TOK.mono {σ σ':Sg} {t:List (Nat × AV)} {a:Act} (h:Ext σ σ') (ht:TOK σ t a):TOK σ' t a:=fun k=>Rel.mono h _ _ (ht k)
theorem RelE.mono {σ σ':Sg} (h:Ext σ σ'):∀ {es:List (AV × AV)} {l:List MapEntry},RelE σ es l→RelE σ' es l
  | [],_,r=>r
  | (_,_) :: _,_,⟨e,l',h1,h2,h3,h4⟩=>⟨e,l',h1,Rel.mono h _ _ h2,Rel.mono h _ _ h3,RelE.mono h h4⟩
theorem OOK.mono {σ σ':Sg} (h:Ext σ σ'):∀ {x:OObj} {o:Option Obj},OOK P σ x o→OOK P σ' x o
  | .map _ _ _,_,⟨arr,h1,h2,h3⟩=>⟨arr,h1,RelE.mono h h2,h3⟩
  | .iter _ _ _ _,_,⟨m',h1,.inl h2⟩=>⟨m',h1,.inl h2⟩
  | .iter _ _ _ _,_,⟨m',h1,.inr ⟨id,l,h2,h3,h4⟩⟩=>⟨m',h1,.inr ⟨id,l,h2,h.2 _ _ h3,h4⟩⟩
  | .loop _ _ _ _ _,_,⟨r,h1,h2,h3⟩=>⟨r,h1,h2.mono h,h3.1,h3.2.1,h3.2.2.1,h3.2.2.2.1,h3.2.2.2.2.1,tSc_mono h.1 h3.2.2.2.2.2⟩
theorem relE_sc {σ:Sg}:∀ {es:List (AV × AV)} {l:List MapEntry},RelE σ es l→(es.all fun p=>p.1.sc σ.length && p.2.sc σ.length)=true
  | [],_,_=>rfl
  | (k,v) :: es,_,⟨e,l',h1,h2,h3,h4⟩=>by
    simp only [List.all_cons,rel_sc k _ h2,rel_sc v _ h3,relE_sc h4,Bool.and_self]
theorem ook_sc {σ:Sg}:∀ {x:OObj} {o:Option Obj},OOK P σ x o→x.sc σ.length=true
  | .map _ _ _,_,⟨_,_,h2,_⟩=>relE_sc h2
  | .iter none _ _ _,_,_=>rfl
  | .iter (some id) _ _ _,_,⟨_,_,h⟩=>by
    rcases h with⟨h,_⟩|⟨id',l,h1,h2,_⟩
    · cases h
    · cases h1;simp only [OObj.sc,decide_eq_true_eq];exact get_some_lt h2
  | .loop _ _ _ _ _,_,⟨_,_,_,h3⟩=>h3.2.2.2.2.2
def ObjOK (P:Program) (B:Nat) (σ:Sg) (w:World) (l?:Option Loc):AObj→Prop
  | .dead=>True
  | .other x =>
    match l? with
    | none=>False
    | some l=>l.blk<w.heap.size∧B≤l.blk∧l.base=0∧OOK P σ x w.heap[l.blk]?
  | .cells vs own =>
    match l? with
    | none=>vs=[]
    | some l=>l.blk<w.heap.size∧(∀ (j:Nat) (v:AV),vs[j]?=some v→∃ c,w.cell? ⟨l.blk,l.base+j,none⟩=some c∧Rel σ v c) ∧
      (own=true→B≤l.blk∧l.base=0∧∃ arr e,w.heap[l.blk]?=some (.cells arr e (0,0))∧arr.size=l.tot∧vs.length≤l.tot)
structure HeapOK (P:Program) (B:Nat) (σ:Sg) (h:Heap) (w:World):Prop where
  len:σ.length=h.length
  low:B≤w.heap.size
  obj:∀ (i:Nat) (o:AObj) (l:Option Loc),h[i]?=some o→σ[i]?=some l→ObjOK P B σ w l o
  uniq:∀ (i j:Nat) (oi oj:AObj) (li lj:Loc),h[i]?=some oi→h[j]?=some oj→oi.isOwn=true→oj.live=true →
    σ[i]?=some (some li)→σ[j]?=some (some lj)→i≠j→li.blk≠lj.blk
theorem ObjOK.mono {B:Nat} {σ σ':Sg} {w:World} {l:Option Loc} {o:AObj} (he:Ext σ σ') (h:ObjOK P B σ w l o):ObjOK P B σ' w l o:=by
  cases o with
  | dead=>trivial
  | other x =>
    cases l with
    | none=>exact h
    | some l =>
      obtain⟨h0,h1,h2,h3⟩:=h
      exact⟨h0,h1,h2,h3.mono he⟩
  | cells vs own =>
    cases l with
    | none=>exact h
    | some l =>
      obtain⟨h0,h1,h2⟩:=h
      exact⟨h0,fun j v hv=>let ⟨c,a,b⟩:=h1 j v hv;⟨c,a,Rel.mono he _ _ b⟩,h2⟩
theorem ObjOK.world {B:Nat} {σ:Sg} {w w':World} {l:Option Loc} {o:AObj} (h:ObjOK P B σ w l o) (hs:w.heap.size≤w'.heap.size)
    (hb:∀ l',l=some l'→o.live=true→w'.heap[l'.blk]?=w.heap[l'.blk]?):ObjOK P B σ w' l o:=by
  cases o with
  | dead=>trivial
  | other x =>
    cases l with
    | none=>exact h
    | some l =>
      have hb:=hb l rfl rfl
      obtain⟨h0,h1,h2,h3⟩:=h
      exact⟨Nat.lt_of_lt_of_le h0 hs,h1,h2,by rw [hb];exact h3⟩
  | cells vs own =>
    cases l with
    | none=>exact h
    | some l =>
      have hb:=hb l rfl rfl
      obtain⟨h0,h1,h2⟩:=h
      refine⟨Nat.lt_of_lt_of_le h0 hs,fun j v hv=>?_,fun ho=>?_⟩
      · obtain⟨c,a,b⟩:=h1 j v hv
        refine⟨c,?_,b⟩
        unfold World.cell? at a ⊢
        simp only at a ⊢
        rw [hb];exact a
      · rw [hb];exact h2 ho
theorem HeapOK.heap_eq {B:Nat} {σ:Sg} {h:Heap} {w w':World} (k:HeapOK P B σ h w) (e:w'.heap=w.heap):HeapOK P B σ h w' :=
  ⟨k.len,by rw [e];exact k.low,fun i o l hi hl=>(k.obj i o l hi hl).world (by rw [e];exact Nat.le_refl _) (fun _ _ _=>by rw [e]),k.uniq⟩
theorem append_cases {α:Type} {l:List α} {a b:α} {i:Nat} (h:(l++[a])[i]?=some b):(i<l.length∧l[i]?=some b)∨(i=l.length∧b=a):=by
  rcases Nat.lt_trichotomy i l.length with h'|h'|h'
  · rw [List.getElem?_append_left h'] at h;exact .inl ⟨h',h⟩
  · subst h';simp at h;exact .inr ⟨rfl,h.symm⟩
  · rw [List.getElem?_eq_none (by simp;omega)] at h;cases h
theorem HeapOK.blk_lt {B:Nat} {σ:Sg} {h:Heap} {w:World} (k:HeapOK P B σ h w) {i:Nat} {o:AObj} {l:Loc} (hi:h[i]?=some o) (hl:σ[i]?=some (some l)) (ho:o.live=true) :
    l.blk<w.heap.size:=by
  have:=k.obj i o _ hi hl
  cases o with
  | dead=>simp [AObj.live] at ho
  | other _=>exact this.1
  | cells _ _=>exact this.1
theorem HeapOK.sg {B:Nat} {σ:Sg} {h:Heap} {w:World} (k:HeapOK P B σ h w) {i:Nat} {o:AObj} (hi:h[i]?=some o):∃ l,σ[i]?=some l :=
  ⟨σ[i]'(by rw [k.len];exact get_some_lt hi),by simp⟩
theorem HeapOK.alloc {B:Nat} {σ:Sg} {h:Heap} {w:World} (k:HeapOK P B σ h w) {vs:List AV} {cs tail:List Value} (e:TypeId) (hr:RelL σ vs cs) :
    HeapOK P B (σ++[some ⟨w.heap.size,0,cs.length+tail.length⟩]) (h++[.cells vs true]) (w.alloc (.cells (cs++tail).toArray e)):=by
  have hlen:vs.length=cs.length:=hr.length
  have hold:∀ k',k'<w.heap.size→(w.alloc (.cells (cs++tail).toArray e)).heap[k']?=w.heap[k']?:=fun k' hk=>Below.heap_alloc _ _ _ hk
  have hnew:(w.alloc (.cells (cs++tail).toArray e)).heap[w.heap.size]?=some (.cells (cs++tail).toArray e (0,0)):=by
    show (w.heap.push _)[w.heap.size]?=_
    simp
  refine⟨by simp [k.len],by simp;have:=k.low;omega,?_,?_⟩
  · intro i o l hi hl
    rcases append_cases hi with⟨h1,h2⟩|⟨h1,h2⟩
    · rw [List.getElem?_append_left (by rw [k.len];exact h1)] at hl
      refine ((k.obj i o l h2 hl).mono (Ext.app _ _)).world (by simp) (fun l' e' ho=>?_)
      subst e'
      exact hold _ (k.blk_lt h2 hl ho)
    · subst h1;subst h2
      rw [← k.len] at hl;simp at hl;subst hl
      refine⟨by simp,fun j v hv=>?_,fun _=>⟨k.low,rfl,_,e,hnew,by simp,by simp [hlen]⟩⟩
      obtain⟨c,h1,h2⟩:=hr.get hv
      refine⟨c,?_,Rel.mono (Ext.app _ _) _ _ h2⟩
      simp only [World.cell?,hnew,Nat.zero_add]
      have:=get_some_lt h1
      simp only [Option.isSome_none,Bool.false_eq_true,↓reduceIte,List.getElem?_toArray]
      rw [List.getElem?_append_left this];exact h1
  · intro i j oi oj li lj hi hj ho hv hli hlj hne
    rcases append_cases hi with⟨h1,h2⟩|⟨h1,h2⟩ <;> rcases append_cases hj with⟨h3,h4⟩|⟨h3,h4⟩
    · rw [List.getElem?_append_left (by rw [k.len];exact h1)] at hli
      rw [List.getElem?_append_left (by rw [k.len];exact h3)] at hlj
      exact k.uniq i j oi oj li lj h2 h4 ho hv hli hlj hne
    · rw [List.getElem?_append_left (by rw [k.len];exact h1)] at hli
      subst h3
      rw [← k.len] at hlj;simp at hlj;subst hlj
      have:oi.live=true:=by cases oi <;> simp_all [AObj.isOwn,AObj.live]
      have:=k.blk_lt h2 hli this
      simp;omega
    · rw [List.getElem?_append_left (by rw [k.len];exact h3)] at hlj
      subst h1
      rw [← k.len] at hli;simp at hli;subst hli
      have:=k.blk_lt h4 hlj hv
      simp;omega
    · omega
theorem HeapOK.row {B:Nat} {σ:Sg} {h:Heap} {w:World} (k:HeapOK P B σ h w) {i:Nat} {vs:List AV} {l:Loc}
    (hi:h[i]?=some (.cells vs true)) (hl:σ[i]?=some (some l)) :
    B≤l.blk∧l.base=0∧∃ arr e,w.heap[l.blk]?=some (.cells arr e (0,0))∧arr.size=l.tot∧vs.length≤l.tot∧RelL σ vs (arr.toList.take vs.length):=by
  obtain⟨h0,h1,h2⟩:=k.obj i _ _ hi hl
  obtain⟨hB,hb,arr,e,hblk,htot,hfit⟩:=h2 rfl
  refine⟨hB,hb,arr,e,hblk,htot,hfit,RelL.of_get (by simp;omega) (fun j a v ha hv=>?_)⟩
  obtain⟨c,hc,hr⟩:=h1 j a ha
  simp only [World.cell?,hblk,hb,Nat.zero_add] at hc
  have hj:j<vs.length:=get_some_lt ha
  rw [List.getElem?_take,if_pos hj] at hv
  simp only [Option.isSome_none,Bool.false_eq_true,↓reduceIte] at hc
  rw [Array.getElem?_toList,hc] at hv
  simp only [Option.some.injEq] at hv;subst hv;exact hr
theorem HeapOK.rerow {B:Nat} {σ:Sg} {h:Heap} {w:World} (k:HeapOK P B σ h w) {i:Nat} {vs vs':List AV} {l:Loc} {arr':Array Value}
    (hi:h[i]?=some (.cells vs true)) (hl:σ[i]?=some (some l)) (hs:arr'.size=l.tot) (hf:vs'.length≤l.tot) (hr:RelL σ vs' (arr'.toList.take vs'.length)) :
    HeapOK P B σ (h.set i (.cells vs' true)) (w.setRow l.blk arr'):=by
  obtain⟨hB,hb,arr,e,hblk,htot,hfit,hrel⟩:=k.row hi hl
  have hnew:=setRow_heap w l.blk arr arr' e (0,0) hblk
  have hother:∀ b,b≠l.blk→(w.setRow l.blk arr').heap[b]?=w.heap[b]?:=fun b hb=>setRow_other _ _ _ _ hb
  have hlt:i<h.length:=get_some_lt hi
  refine⟨by simp [k.len],by simpa using k.low,?_,?_⟩
  · intro j o l' hj hl'
    rw [List.getElem?_set] at hj
    by_cases hij:i=j
    · subst hij
      simp only [if_true,hlt,Option.some.injEq] at hj;subst hj
      rw [hl] at hl';simp only [Option.some.injEq] at hl';subst hl'
      refine⟨by simpa using k.blk_lt hi hl rfl,fun m x hx=>?_,fun _=>⟨hB,hb,_,e,hnew,hs,hf⟩⟩
      obtain⟨c,h1,h2⟩:=hr.get hx
      refine⟨c,?_,h2⟩
      have hm:m<vs'.length:=get_some_lt hx
      rw [List.getElem?_take,if_pos hm,Array.getElem?_toList] at h1
      simp only [World.cell?,hnew,hb,Nat.zero_add]
      simpa using h1
    · simp only [hij,if_false] at hj
      refine (k.obj j o l' hj hl').world (by simp) (fun l'' e' hlive=>?_)
      subst e'
      exact hother _ (Ne.symm (k.uniq i j _ _ l l'' hi hj rfl hlive hl hl' hij))
  · intro a b oa ob la lb ha hb hoa hlb hla hlb' hne
    have conv:∀ (x:Nat) (ox:AObj),(h.set i (.cells vs' true))[x]?=some ox→∃ ox',h[x]?=some ox'∧ox'.isOwn=ox.isOwn∧ox'.live=ox.live:=by
      intro x ox hx
      rw [List.getElem?_set] at hx
      by_cases hix:i=x
      · subst hix
        simp only [if_true,hlt,Option.some.injEq] at hx;subst hx
        exact⟨_,hi,rfl,rfl⟩
      · simp only [hix,if_false] at hx
        exact⟨ox,hx,rfl,rfl⟩
    obtain⟨oa',ha',ea,_⟩:=conv a oa ha
    obtain⟨ob',hb',_,eb⟩:=conv b ob hb
    exact k.uniq a b oa' ob' la lb ha' hb' (by rw [ea];exact hoa) (by rw [eb];exact hlb) hla hlb' hne
theorem HeapOK.move {B:Nat} {σ:Sg} {h:Heap} {w:World} (k:HeapOK P B σ h w) {i:Nat} {o:AObj} {l:Option Loc}
    (hi:h[i]?=some o) (hl:σ[i]?=some l):HeapOK P B (σ++[l]) (h.set i .dead++[o]) w:=by
  have hlt:i<h.length:=get_some_lt hi
  have hnd:∀ (x:Nat) (ox:AObj),(h.set i .dead)[x]?=some ox→ox.live=true→i≠x∧h[x]?=some ox:=by
    intro x ox hx hv
    rw [List.getElem?_set] at hx
    by_cases hix:i=x
    · subst hix
      simp only [if_true,hlt,Option.some.injEq] at hx;subst hx
      simp [AObj.live] at hv
    · simp only [hix,if_false] at hx;exact⟨hix,hx⟩
  refine⟨by simp [k.len],k.low,?_,?_⟩
  · intro j oj lj hj hlj
    rcases append_cases hj with⟨h1,h2⟩|⟨h1,h2⟩
    · simp only [List.length_set] at h1
      rw [List.getElem?_append_left (by rw [k.len];exact h1)] at hlj
      by_cases hv:oj.live=true
      · obtain⟨_,h3⟩:=hnd j oj h2 hv
        exact (k.obj j oj lj h3 hlj).mono (Ext.app _ _)
      · cases oj with
        | dead=>trivial
        | other _=>simp [AObj.live] at hv
        | cells _ _=>simp [AObj.live] at hv
    · simp only [List.length_set] at h1;subst h1;subst h2
      rw [← k.len] at hlj;simp at hlj;subst hlj
      exact (k.obj i oj l hi hl).mono (Ext.app _ _)
  · intro a b oa ob la lb ha hb hoa hlb hla hlb' hne
    have hav:oa.live=true:=by cases oa <;> simp_all [AObj.isOwn,AObj.live]
    rcases append_cases ha with⟨h1,h2⟩|⟨h1,h2⟩ <;> rcases append_cases hb with⟨h3,h4⟩|⟨h3,h4⟩
    · simp only [List.length_set] at h1 h3
      rw [List.getElem?_append_left (by rw [k.len];exact h1)] at hla
      rw [List.getElem?_append_left (by rw [k.len];exact h3)] at hlb'
      exact k.uniq a b oa ob la lb (hnd a oa h2 hav).2 (hnd b ob h4 hlb).2 hoa hlb hla hlb' hne
    · simp only [List.length_set] at h1 h3
      rw [List.getElem?_append_left (by rw [k.len];exact h1)] at hla
      subst h3;subst h4
      rw [← k.len] at hlb';simp at hlb';subst hlb'
      exact k.uniq a i oa ob la lb (hnd a oa h2 hav).2 hi hoa hlb hla hl (hnd a oa h2 hav).1.symm
    · simp only [List.length_set] at h1 h3
      rw [List.getElem?_append_left (by rw [k.len];exact h3)] at hlb'
      subst h1;subst h2
      rw [← k.len] at hla;simp at hla;subst hla
      exact k.uniq i b oa ob la lb hi (hnd b ob h4 hlb).2 hoa hlb hl hlb' (hnd b ob h4 hlb).1
    · simp only [List.length_set] at h1 h3;omega
theorem HeapOK.shrink {B:Nat} {σ:Sg} {h:Heap} {w:World} (k:HeapOK P B σ h w) {i:Nat} {vs:List AV} (n:Nat)
    (hi:h[i]?=some (.cells vs true)):HeapOK P B σ (h.set i (.cells (vs.take n) true)) w:=by
  obtain⟨l,hl⟩:=k.sg hi
  have hlt:i<h.length:=get_some_lt hi
  refine⟨by simp [k.len],k.low,?_,?_⟩
  · intro j o l' hj hl'
    rw [List.getElem?_set] at hj
    by_cases hij:i=j
    · subst hij
      simp only [if_true,hlt,Option.some.injEq] at hj;subst hj
      have:=k.obj i _ _ hi hl'
      cases l' with
      | none=>simp only [ObjOK] at this ⊢;simp [this]
      | some l' =>
        obtain⟨h0,h1,h2⟩:=this
        refine⟨h0,fun m x hx=>?_,fun _=>?_⟩
        · rw [List.getElem?_take] at hx
          split at hx
          · exact h1 m x hx
          · cases hx
        · obtain⟨hB,hb,arr,e,hblk,htot,hfit⟩:=h2 rfl
          exact⟨hB,hb,arr,e,hblk,htot,by simp;omega⟩
    · simp only [hij,if_false] at hj
      exact k.obj j o l' hj hl'
  · intro a b oa ob la lb ha hb hoa hlb hla hlb' hne
    have conv:∀ (x:Nat) (ox:AObj),(h.set i (.cells (vs.take n) true))[x]?=some ox→∃ ox',h[x]?=some ox'∧ox'.isOwn=ox.isOwn∧ox'.live=ox.live:=by
      intro x ox hx
      rw [List.getElem?_set] at hx
      by_cases hix:i=x
      · subst hix
        simp only [if_true,hlt,Option.some.injEq] at hx;subst hx
        exact⟨_,hi,rfl,rfl⟩
      · simp only [hix,if_false] at hx
        exact⟨ox,hx,rfl,rfl⟩
    obtain⟨oa',ha',ea,_⟩:=conv a oa ha
    obtain⟨ob',hb',_,eb⟩:=conv b ob hb
    exact k.uniq a b oa' ob' la lb ha' hb' (by rw [ea];exact hoa) (by rw [eb];exact hlb) hla hlb' hne
theorem HeapOK.virtual {B:Nat} {σ:Sg} {h:Heap} {w:World} (k:HeapOK P B σ h w) (own:Bool):HeapOK P B (σ++[none]) (h++[.cells [] own]) w:=by
  refine⟨by simp [k.len],k.low,?_,?_⟩
  · intro i o l hi hl
    rcases append_cases hi with⟨h1,h2⟩|⟨h1,h2⟩
    · rw [List.getElem?_append_left (by rw [k.len];exact h1)] at hl
      exact (k.obj i o l h2 hl).mono (Ext.app _ _)
    · subst h1;subst h2
      rw [← k.len] at hl;simp at hl;subst hl
      rfl
  · intro i j oi oj li lj hi hj ho hv hli hlj hne
    rcases append_cases hi with⟨h1,h2⟩|⟨h1,h2⟩ <;> rcases append_cases hj with⟨h3,h4⟩|⟨h3,h4⟩
    · rw [List.getElem?_append_left (by rw [k.len];exact h1)] at hli
      rw [List.getElem?_append_left (by rw [k.len];exact h3)] at hlj
      exact k.uniq i j oi oj li lj h2 h4 ho hv hli hlj hne
    · subst h3;rw [← k.len] at hlj;simp at hlj
    · subst h1;rw [← k.len] at hli;simp at hli
    · omega
theorem HeapOK.alias {B:Nat} {σ:Sg} {h:Heap} {w:World} (k:HeapOK P B σ h w) {i off:Nat} {vs vs':List AV} {l:Loc}
    (hi:h[i]?=some (.cells vs false)) (hl:σ[i]?=some (some l)) (hv:∀ (j:Nat) (v:AV),vs'[j]?=some v→vs[off+j]?=some v) :
    HeapOK P B (σ++[some ⟨l.blk,l.base+off,l.tot⟩]) (h++[.cells vs' false]) w:=by
  refine⟨by simp [k.len],k.low,?_,?_⟩
  · intro j o l' hj hl'
    rcases append_cases hj with⟨h1,h2⟩|⟨h1,h2⟩
    · rw [List.getElem?_append_left (by rw [k.len];exact h1)] at hl'
      exact (k.obj j o l' h2 hl').mono (Ext.app _ _)
    · subst h1;subst h2
      rw [← k.len] at hl';simp at hl';subst hl'
      obtain⟨h0,h1,_⟩:=k.obj i _ _ hi hl
      refine⟨h0,fun j v hj=>?_,fun h=>by cases h⟩
      obtain⟨c,a,b⟩:=h1 _ _ (hv j v hj)
      exact⟨c,by rw [Nat.add_assoc];exact a,Rel.mono (Ext.app _ _) _ _ b⟩
  · intro a b oa ob la lb ha hb ho hlv hla hlb hne
    rcases append_cases ha with⟨h1,h2⟩|⟨h1,h2⟩ <;> rcases append_cases hb with⟨h3,h4⟩|⟨h3,h4⟩
    · rw [List.getElem?_append_left (by rw [k.len];exact h1)] at hla
      rw [List.getElem?_append_left (by rw [k.len];exact h3)] at hlb
      exact k.uniq a b oa ob la lb h2 h4 ho hlv hla hlb hne
    · rw [List.getElem?_append_left (by rw [k.len];exact h1)] at hla
      subst h3;subst h4
      rw [← k.len] at hlb;simp at hlb;subst hlb
      have:a≠i:=by
        intro e;subst e;rw [h2] at hi;cases hi;simp [AObj.isOwn] at ho
      exact k.uniq a i oa _ la l h2 hi ho rfl hla hl this
    · subst h2;simp [AObj.isOwn] at ho
    · omega
structure Ctl (w w':World):Prop where
  size:w.heap.size≤w'.heap.size
  loop:∀ (k:Nat) (r:Loop),w.heap[k]?=some (.loop r)→∃ r',w'.heap[k]?=some (.loop r')∧r'.defers=r.defers
  mark:∀ (k:Nat),w.heap[k]?=some (.deferred (some []))→w'.heap[k]?=some (.deferred (some []))
theorem Ctl.of {w w':World} (hs:w.heap.size≤w'.heap.size) (h:∀ (k:Nat) (o:Obj),w.heap[k]?=some o→(∀ a b c,o≠.cells a b c)→w'.heap[k]?=some o):Ctl w w' :=
  ⟨hs,fun k r hr=>⟨r,h k _ hr (by intro a b c e;cases e),rfl⟩,fun k hr=>h k _ hr (by intro a b c e;cases e)⟩
theorem Ctl.refl (w:World):Ctl w w:=Ctl.of (Nat.le_refl _) fun _ _ h _=>h
theorem Ctl.trans {a b c:World} (h:Ctl a b) (k:Ctl b c):Ctl a c:=⟨Nat.le_trans h.size k.size,fun i r hr=>by
  obtain⟨r1,h1,e1⟩:=h.loop i r hr
  obtain⟨r2,h2,e2⟩:=k.loop i r1 h1
  exact⟨r2,h2,e2.trans e1⟩,fun i hr=>k.mark i (h.mark i hr)⟩
theorem Ctl.alloc (w:World) (o:Obj):Ctl w (w.alloc o):=Ctl.of (by simp) fun k o' h _=>(Below.heap_alloc w o k (Array.getElem?_eq_some_iff.1 h).1).trans h
theorem Ctl.setRow (w:World) (g:Nat) (cs:Array Value):Ctl w (w.setRow g cs):=Ctl.of (by simp) fun k o ho hn=>by
  by_cases hk:k=g
  · subst hk
    have hlt:=(Array.getElem?_eq_some_iff.1 ho).1
    have hv:=(Array.getElem?_eq_some_iff.1 ho).2
    show (w.heap.modify k _)[k]?=_
    rw [Array.getElem?_eq_getElem (by rw [Array.size_modify];exact hlt),Array.getElem_modify_self,hv]
    cases o <;> first|rfl|exact absurd rfl (hn _ _ _)
  · have e:(w.setRow g cs).heap[k]?=w.heap[k]?:=setRow_other _ _ _ _ hk
    rw [e];exact ho
theorem Ctl.putObj (w:World) {g:Nat} {o:Obj} (o':Obj) (ho:w.heap[g]?=some o) (h1:∀ r,o=.loop r→∃ r',o'=.loop r'∧r'.defers=r.defers) (h2:∀ d,o≠.deferred d):Ctl w (w.putObj g o'):=by
  have hlt:=(Array.getElem?_eq_some_iff.1 ho).1
  refine⟨by simp,fun k r hr=>?_,fun k hr=>?_⟩
  · by_cases hk:k=g
    · subst hk
      rw [World.putObj_heap_same hlt]
      rw [ho] at hr;simp only [Option.some.injEq] at hr
      obtain⟨r',e1,e2⟩:=h1 r hr
      exact⟨r',by rw [e1],e2⟩
    · rw [World.putObj_heap_other hk];exact⟨r,hr,rfl⟩
  · by_cases hk:k=g
    · subst hk
      rw [ho] at hr;simp only [Option.some.injEq] at hr;exact absurd hr (h2 _)
    · rw [World.putObj_heap_other hk];exact hr
structure Grow (σ:Sg) (h:Heap) (w:World) (σ':Sg) (h':Heap) (w':World):Prop where
  os:w'.os=w.os
  tape:w'.tape=w.tape
  output:w'.output=w.output
  size:w.heap.size≤w'.heap.size
  frame:∀ k,k<w.heap.size→(∀ (i:Nat) (o:AObj) (l:Loc),h[i]?=some o→o.isOwn=true→σ[i]?=some (some l)→l.blk≠k)→w'.heap[k]?=w.heap[k]?
  owns:∀ (i:Nat) (o:AObj) (l:Loc),h'[i]?=some o→o.isOwn=true→σ'[i]?=some (some l) →
    w.heap.size≤l.blk∨∃ (j:Nat) (p:AObj) (m:Loc),h[j]?=some p∧p.isOwn=true∧σ[j]?=some (some m)∧m.blk=l.blk
  lives:∀ (i:Nat) (o:AObj) (l:Loc),h'[i]?=some o→o.live=true→σ'[i]?=some (some l) →
    w.heap.size≤l.blk∨∃ (j:Nat) (p:AObj) (m:Loc),h[j]?=some p∧p.live=true∧σ[j]?=some (some m)∧m.blk=l.blk
  ctl:Ctl w w'
theorem Grow.refl (σ:Sg) (h:Heap) (w:World):Grow σ h w σ h w :=
  ⟨rfl,rfl,rfl,Nat.le_refl _,fun _ _ _=>rfl,fun i o l h1 h2 h3=>.inr ⟨i,o,l,h1,h2,h3,rfl⟩,fun i o l h1 h2 h3=>.inr ⟨i,o,l,h1,h2,h3,rfl⟩,Ctl.refl _⟩
theorem Grow.trans {σ σ' σ'':Sg} {h h' h'':Heap} {w w' w'':World} (a:Grow σ h w σ' h' w') (b:Grow σ' h' w' σ'' h'' w''):Grow σ h w σ'' h'' w'':=by
  refine⟨b.os.trans a.os,b.tape.trans a.tape,b.output.trans a.output,Nat.le_trans a.size b.size,?_,?_,?_,a.ctl.trans b.ctl⟩
  · intro k hk hno
    rw [b.frame k (Nat.lt_of_lt_of_le hk a.size) ?_,a.frame k hk hno]
    intro i o l h1 h2 h3 e
    rcases a.owns i o l h1 h2 h3 with hle|⟨j,p,m,g1,g2,g3,g4⟩
    · omega
    · exact hno j p m g1 g2 g3 (g4.trans e)
  · intro i o l h1 h2 h3
    rcases b.owns i o l h1 h2 h3 with hle|⟨j,p,m,g1,g2,g3,g4⟩
    · exact .inl (Nat.le_trans a.size hle)
    · rcases a.owns j p m g1 g2 g3 with hle|⟨j',p',m',k1,k2,k3,k4⟩
      · exact .inl (by omega)
      · exact .inr ⟨j',p',m',k1,k2,k3,k4.trans g4⟩
  · intro i o l h1 h2 h3
    rcases b.lives i o l h1 h2 h3 with hle|⟨j,p,m,g1,g2,g3,g4⟩
    · exact .inl (Nat.le_trans a.size hle)
    · rcases a.lives j p m g1 g2 g3 with hle|⟨j',p',m',k1,k2,k3,k4⟩
      · exact .inl (by omega)
      · exact .inr ⟨j',p',m',k1,k2,k3,k4.trans g4⟩
theorem Grow.below {B:Nat} {σ σ':Sg} {h h':Heap} {w w':World} (k:HeapOK P B σ h w) (a:Grow σ h w σ' h' w'):Below B w w':=by
  refine⟨a.os,a.tape,a.output,a.size,fun b hb=>a.frame b (Nat.lt_of_lt_of_le hb k.low) ?_⟩
  intro i o l h1 h2 h3 e
  have:=k.obj i o _ h1 h3
  cases o with
  | dead=>simp [AObj.isOwn] at h2
  | other x =>
    have:=this.2.1
    omega
  | cells vs own =>
    simp only [AObj.isOwn] at h2
    have:=(this.2.2 h2).1
    omega
theorem Grow.same {σ σ':Sg} {h h':Heap} {w:World} (ho:∀ (i:Nat) (o:AObj) (l:Loc),h'[i]?=some o→o.live=true→σ'[i]?=some (some l) →
    ∃ (j:Nat) (p:AObj) (m:Loc),h[j]?=some p∧p.live=true∧(o.isOwn=true→p.isOwn=true)∧σ[j]?=some (some m)∧m.blk=l.blk):Grow σ h w σ' h' w:=by
  refine⟨rfl,rfl,rfl,Nat.le_refl _,fun _ _ _=>rfl,fun i o l h1 h2 h3=>?_,fun i o l h1 h2 h3=>?_,Ctl.refl _⟩
  · obtain⟨j,p,m,g1,_,g3,g4⟩:=ho i o l h1 (by cases o <;> simp_all [AObj.isOwn,AObj.live]) h3
    exact .inr ⟨j,p,m,g1,g3 h2,g4⟩
  · obtain⟨j,p,m,g1,g2,_,g4⟩:=ho i o l h1 h2 h3
    exact .inr ⟨j,p,m,g1,g2,g4⟩
theorem Grow.alloc {σ:Sg} {h:Heap} {w:World} (hl:σ.length=h.length) (o:Obj) (ob:AObj) (l:Loc) (hb:l.blk=w.heap.size) :
    Grow σ h w (σ++[some l]) (h++[ob]) (w.alloc o):=by
  refine⟨rfl,rfl,rfl,by simp,fun k hk _=>Below.heap_alloc _ _ _ hk,?_,?_,Ctl.alloc _ _⟩ <;>
  · intro i oi li h1 h2 h3
    rcases append_cases h1 with⟨g1,g2⟩|⟨g1,g2⟩
    · rw [List.getElem?_append_left (by omega)] at h3
      exact .inr ⟨i,oi,li,g2,h2,h3,rfl⟩
    · subst g1
      rw [← hl] at h3;simp at h3;subst h3
      exact .inl (by omega)
theorem Grow.beside (σ:Sg) (h:Heap) (w:World) (o:Obj):Grow σ h w σ h (w.alloc o) :=
  ⟨rfl,rfl,rfl,by simp,fun k hk _=>Below.heap_alloc _ _ _ hk,fun i o l h1 h2 h3=>.inr ⟨i,o,l,h1,h2,h3,rfl⟩,fun i o l h1 h2 h3=>.inr ⟨i,o,l,h1,h2,h3,rfl⟩,Ctl.alloc _ _⟩
theorem Grow.write {σ:Sg} {h:Heap} {w:World} {i:Nat} {vs vs':List AV} {l:Loc} (hi:h[i]?=some (.cells vs true)) (hl:σ[i]?=some (some l)) (arr:Array Value) :
    Grow σ h w σ (h.set i (.cells vs' true)) (w.setRow l.blk arr):=by
  refine⟨rfl,rfl,rfl,by simp,fun k _ hno=>setRow_other _ _ _ _ (fun e=>hno i _ l hi rfl hl e.symm),?_,?_,Ctl.setRow _ _ _⟩ <;>
  · intro j o m h1 h2 h3
    rw [List.getElem?_set] at h1
    by_cases hij:i=j
    · subst hij
      rw [hl] at h3;simp only [Option.some.injEq] at h3;subst h3
      exact .inr ⟨i,_,l,hi,rfl,hl,rfl⟩
    · simp only [hij,if_false] at h1
      exact .inr ⟨j,o,m,h1,h2,h3,rfl⟩
theorem set_dead {h:Heap} {i:Nat} {j:Nat} {o:AObj} (hj:(h.set i .dead)[j]?=some o) (ho:o.live=true):h[j]?=some o:=by
  rw [List.getElem?_set] at hj
  by_cases hij:i=j
  · subst hij
    split at hj
    · split at hj
      · simp only [Option.some.injEq] at hj;subst hj;simp [AObj.live] at ho
      · cases hj
    · rename_i hne;exact (hne rfl).elim
  · simp only [hij,if_false] at hj;exact hj
theorem Grow.kill (σ:Sg) (h:Heap) (w:World) (i:Nat):Grow σ h w σ (h.set i .dead) w :=
  Grow.same fun j o l h1 h2 h3=>⟨j,o,l,set_dead h1 h2,h2,fun h=>h,h3,rfl⟩
theorem Grow.move {σ:Sg} {h:Heap} {w:World} (hl:σ.length=h.length) {i:Nat} {o:AObj} {l:Option Loc} (hi:h[i]?=some o) (hσ:σ[i]?=some l) :
    Grow σ h w (σ++[l]) (h.set i .dead++[o]) w:=by
  refine Grow.same fun j oj lj h1 h2 h3=>?_
  rcases append_cases h1 with⟨g1,g2⟩|⟨g1,g2⟩
  · simp only [List.length_set] at g1
    rw [List.getElem?_append_left (by omega)] at h3
    exact⟨j,oj,lj,set_dead g2 h2,h2,fun h=>h,h3,rfl⟩
  · simp only [List.length_set] at g1
    subst g1;subst g2
    rw [← hl] at h3;simp at h3;subst h3
    exact⟨i,oj,lj,hi,h2,fun h=>h,hσ,rfl⟩
theorem Grow.addNone {σ:Sg} {h:Heap} {w:World} (hl:σ.length=h.length) {ob:AObj}:Grow σ h w (σ++[none]) (h++[ob]) w:=by
  refine Grow.same fun j oj lj h1 h2 h3=>?_
  rcases append_cases h1 with⟨g1,g2⟩|⟨g1,g2⟩
  · rw [List.getElem?_append_left (by omega)] at h3
    exact⟨j,oj,lj,g2,h2,fun h=>h,h3,rfl⟩
  · subst g1;subst g2
    rw [← hl] at h3;simp at h3
theorem Grow.addRo {σ:Sg} {h:Heap} {w:World} (hl:σ.length=h.length) {l:Loc} {ob:AObj} (hob:ob.isOwn=false) {i:Nat} {o:AObj} {m:Loc} (hi:h[i]?=some o) (ho:o.live=true) (hm:σ[i]?=some (some m)) (hb:m.blk=l.blk) :
    Grow σ h w (σ++[some l]) (h++[ob]) w:=by
  refine Grow.same fun j oj lj h1 h2 h3=>?_
  rcases append_cases h1 with⟨g1,g2⟩|⟨g1,g2⟩
  · rw [List.getElem?_append_left (by omega)] at h3
    exact⟨j,oj,lj,g2,h2,fun h=>h,h3,rfl⟩
  · subst g1;subst g2
    rw [← hl] at h3;simp at h3;subst h3
    exact⟨i,o,m,hi,ho,fun h=>(by rw [hob] at h;cases h),hm,hb⟩
theorem Grow.shrink {σ:Sg} {h:Heap} {w:World} {i:Nat} {vs vs':List AV} (hi:h[i]?=some (.cells vs true)):Grow σ h w σ (h.set i (.cells vs' true)) w:=by
  refine Grow.same fun j oj lj h1 h2 h3=>?_
  rw [List.getElem?_set] at h1
  by_cases hij:i=j
  · subst hij;exact⟨i,_,lj,hi,rfl,fun _=>rfl,h3,rfl⟩
  · simp only [hij,if_false] at h1;exact⟨j,oj,lj,h1,h2,fun h=>h,h3,rfl⟩
theorem Grow.drew (σ:Sg) (h:Heap) (w:World):Grow σ h w σ h w.drew :=
  ⟨rfl,rfl,rfl,Nat.le_refl _,fun _ _ _=>rfl,fun i o l h1 h2 h3=>.inr ⟨i,o,l,h1,h2,h3,rfl⟩,fun i o l h1 h2 h3=>.inr ⟨i,o,l,h1,h2,h3,rfl⟩,Ctl.of (Nat.le_refl _) fun _ _ h _=>h⟩
theorem Grow.put {σ:Sg} {h:Heap} {w:World} {i:Nat} {ob ob':AObj} {l:Loc} (hi:h[i]?=some ob) (ho:ob.isOwn=true) (hl:σ[i]?=some (some l)) (o:Obj) (hc:Ctl w (w.putObj l.blk o)) :
    Grow σ h w σ (h.set i ob') (w.putObj l.blk o):=by
  have hlv:ob.live=true:=by cases ob <;> simp_all [AObj.isOwn,AObj.live]
  refine⟨rfl,rfl,rfl,by simp,fun k _ hno=>World.putObj_heap_other (fun e=>hno i _ l hi ho hl e.symm),?_,?_,hc⟩ <;>
  · intro j o m h1 h2 h3
    rw [List.getElem?_set] at h1
    by_cases hij:i=j
    · subst hij
      rw [hl] at h3;simp only [Option.some.injEq] at h3;subst h3
      exact .inr ⟨i,_,l,hi,by assumption,hl,rfl⟩
    · simp only [hij,if_false] at h1
      exact .inr ⟨j,o,m,h1,h2,h3,rfl⟩
theorem HeapOK.put {B:Nat} {σ:Sg} {h:Heap} {w:World} (k:HeapOK P B σ h w) {i:Nat} {x x':OObj} {l:Loc}
    (hi:h[i]?=some (.other x)) (hl:σ[i]?=some (some l)) (o:Obj) (hx:OOK P σ x' (some o)):HeapOK P B σ (h.set i (.other x')) (w.putObj l.blk o):=by
  obtain⟨h0,h1,h2,h3⟩:=k.obj i _ _ hi hl
  have hlt:i<h.length:=get_some_lt hi
  refine⟨by simp [k.len],by simpa using k.low,?_,?_⟩
  · intro j oj l' hj hl'
    rw [List.getElem?_set] at hj
    by_cases hij:i=j
    · subst hij
      simp only [if_true,hlt,Option.some.injEq] at hj;subst hj
      rw [hl] at hl';simp only [Option.some.injEq] at hl';subst hl'
      exact⟨by simpa using h0,h1,h2,by rw [World.putObj_heap_same h0];exact hx⟩
    · simp only [hij,if_false] at hj
      refine (k.obj j oj l' hj hl').world (by simp) (fun l'' e' hlive=>?_)
      subst e'
      exact World.putObj_heap_other (Ne.symm (k.uniq i j _ _ l l'' hi hj rfl hlive hl hl' hij))
  · intro a b oa ob la lb ha hb hoa hlb hla hlb' hne
    have conv:∀ (y:Nat) (oy:AObj),(h.set i (.other x'))[y]?=some oy→∃ oy',h[y]?=some oy'∧oy'.isOwn=oy.isOwn∧oy'.live=oy.live:=by
      intro y oy hy
      rw [List.getElem?_set] at hy
      by_cases hiy:i=y
      · subst hiy
        simp only [if_true,hlt,Option.some.injEq] at hy;subst hy
        exact⟨_,hi,rfl,rfl⟩
      · simp only [hiy,if_false] at hy
        exact⟨oy,hy,rfl,rfl⟩
    obtain⟨oa',ha',ea,_⟩:=conv a oa ha
    obtain⟨ob',hb',_,eb⟩:=conv b ob hb
    exact k.uniq a b oa' ob' la lb ha' hb' (by rw [ea];exact hoa) (by rw [eb];exact hlb) hla hlb' hne
theorem HeapOK.allocO {B:Nat} {σ:Sg} {h:Heap} {w:World} (k:HeapOK P B σ h w) {x:OObj} (o:Obj) (tot:Nat) (hx:OOK P (σ++[some ⟨w.heap.size,0,tot⟩]) x (some o)) :
    HeapOK P B (σ++[some ⟨w.heap.size,0,tot⟩]) (h++[.other x]) (w.alloc o):=by
  have hold:∀ k',k'<w.heap.size→(w.alloc o).heap[k']?=w.heap[k']?:=fun k' hk=>Below.heap_alloc _ _ _ hk
  have hnew:(w.alloc o).heap[w.heap.size]?=some o:=by
    show (w.heap.push _)[w.heap.size]?=_
    simp
  refine⟨by simp [k.len],by simp;have:=k.low;omega,?_,?_⟩
  · intro i oi l hi hl
    rcases append_cases hi with⟨h1,h2⟩|⟨h1,h2⟩
    · rw [List.getElem?_append_left (by rw [k.len];exact h1)] at hl
      refine ((k.obj i oi l h2 hl).mono (Ext.app _ _)).world (by simp) (fun l' e' ho=>?_)
      subst e'
      exact hold _ (k.blk_lt h2 hl ho)
    · subst h1;subst h2
      rw [← k.len] at hl;simp at hl;subst hl
      exact⟨by simp,k.low,rfl,by rw [hnew];exact hx⟩
  · intro i j oi oj li lj hi hj ho hv hli hlj hne
    rcases append_cases hi with⟨h1,h2⟩|⟨h1,h2⟩ <;> rcases append_cases hj with⟨h3,h4⟩|⟨h3,h4⟩
    · rw [List.getElem?_append_left (by rw [k.len];exact h1)] at hli
      rw [List.getElem?_append_left (by rw [k.len];exact h3)] at hlj
      exact k.uniq i j oi oj li lj h2 h4 ho hv hli hlj hne
    · rw [List.getElem?_append_left (by rw [k.len];exact h1)] at hli
      subst h3
      rw [← k.len] at hlj;simp at hlj;subst hlj
      have:oi.live=true:=by cases oi <;> simp_all [AObj.isOwn,AObj.live]
      have:=k.blk_lt h2 hli this
      simp;omega
    · rw [List.getElem?_append_left (by rw [k.len];exact h3)] at hlj
      subst h1
      rw [← k.len] at hli;simp at hli;subst hli
      have:=k.blk_lt h4 hlj hv
      simp;omega
    · omega
theorem HeapOK.world {B:Nat} {σ:Sg} {h:Heap} {w w':World} (k:HeapOK P B σ h w) (hs:w.heap.size≤w'.heap.size) (hb:∀ b,b<w.heap.size→w'.heap[b]?=w.heap[b]?):HeapOK P B σ h w' :=
  ⟨k.len,Nat.le_trans k.low hs,fun i o l hi hl=>(k.obj i o l hi hl).world hs (fun l' e ho=>hb _ (k.blk_lt hi (by rw [hl,e]) ho)),k.uniq⟩
end Go.Abs
/- Each abstract operation says what the model's operation does. First half. -/
namespace Go.Abs
open Go.RowKit
variable {P:Program}
theorem scalarAV_rel (σ:Sg) {v:Value} {a:AV} (h:scalarAV v=some a):Rel σ a v:=by
  unfold scalarAV at h
  split at h <;> first|(simp only [Option.some.injEq] at h;subst h;rfl)|cases h
theorem scalarsAV_rel (σ:Sg):∀ {vs:List Value} {as:List AV},scalarsAV vs=some as→RelL σ as vs
  | [],as,h=>by simp only [scalarsAV,Option.some.injEq] at h;subst h;rfl
  | v :: vs,as,h=>by
    simp only [scalarsAV] at h
    split at h
    · rename_i a as' h1 h2
      simp only [Option.some.injEq] at h;subst h
      exact⟨v,vs,rfl,scalarAV_rel σ h1,scalarsAV_rel σ h2⟩
    · cases h
theorem constAV_rel (σ:Sg) {v:Value} {a:AV} (h:constAV v=some a):Rel σ a v:=by
  unfold constAV at h
  split at h
  · rename_i cs
    cases hs:scalarsAV cs.toList with
    | none=>simp [hs] at h
    | some as =>
      simp only [hs,Option.map_some,Option.some.injEq] at h;subst h
      exact⟨cs,rfl,scalarsAV_rel σ hs⟩
  · exact scalarAV_rel σ h
theorem copd_rel {σ:Sg} {t:List (Nat × AV)} {a:Act} (ht:TOK σ t a) {x:Operand} {ax:AOpd} (h:copd x=some ax):Rel σ (ax.ev t) (a.eval x):=by
  cases x with
  | tmp i=>simp only [copd,Option.some.injEq] at h;subst h;exact ht i
  | const v =>
    cases hv:constAV v with
    | none=>simp [copd,hv] at h
    | some av=>simp only [copd,hv,Option.map_some,Option.some.injEq] at h;subst h;exact constAV_rel σ hv
  | global g=>cases h
  | func f=>simp only [copd,Option.some.injEq] at h;subst h;exact⟨#[],#[],rfl,rfl,rfl⟩
theorem copds_rel {σ:Sg} {t:List (Nat × AV)} {a:Act} (ht:TOK σ t a):∀ {xs:List Operand} {as:List AOpd},copds xs=some as→RelL σ (as.map (AOpd.ev t)) (xs.map a.eval)
  | [],as,h=>by simp only [copds,Option.some.injEq] at h;subst h;rfl
  | x :: xs,as,h=>by
    simp only [copds] at h
    split at h
    · rename_i a' as' h1 h2
      simp only [Option.some.injEq] at h;subst h
      exact⟨_,_,rfl,copd_rel ht h1,copds_rel ht h2⟩
    · cases h
def Ran (P:Program) (o:Oper) (a:Act) (w:World) (c:Value) (w':World):Prop :=
  (execOp a.eval o).run P w=.ok (.value c) w'∨(c=undef∧(execOp a.eval o).run P w=.ok .skip w')
def Res (P:Program) (B:Nat) (σ:Sg) (h:Heap) (w:World) (o:Oper) (a:Act) (K:AV→Heap→Prop):Prop :=
  ∃ c w' τ v h',Ran P o a w c w'∧HeapOK P B (σ++τ) h' w'∧Rel (σ++τ) v c∧Grow σ h w (σ++τ) h' w'∧K v h'
theorem Res.pure {P:Program} {B:Nat} {σ:Sg} {w:World} {o:Oper} {a:Act} {K:AV→Heap→Prop} {h:Heap} (hk:HeapOK P B σ h w) {c:Value} {v:AV}
    (hr:(execOp a.eval o).run P w=.ok (.value c) w) (hv:Rel σ v c) (h':K v h):Res P B σ h w o a K :=
  ⟨c,w,[],v,h,.inl hr,by simpa using hk,by simpa using hv,by simpa using Grow.refl σ h w,h'⟩
section
variable {P:Program} {B:Nat} {σ:Sg} {h:Heap} {w:World} {a:Act} {t:List (Nat × AV)} {K:AV→Heap→Prop}
variable {dst:Option Tmp} {ty:TypeId} {pos:String} {after:Array Edge} {guard:Option (Nat × Bool)}
theorem snd_move (hk:HeapOK P B σ h w) (ht:TOK σ t a) {x:Operand} {ax:AOpd} (hx:copd x=some ax) (hs:K (ax.ev t) h) :
    Res P B σ h w ⟨dst,.move x,ty,pos,after,guard⟩ a K :=
  Res.pure hk (by simp [execOp]) (copd_rel ht hx) hs
theorem snd_assign (hk:HeapOK P B σ h w) (ht:TOK σ t a) {x:Operand} {ax:AOpd} (hx:copd x=some ax) (hs:K (ax.ev t) h) :
    Res P B σ h w ⟨dst,.assign x,ty,pos,after,guard⟩ a K :=
  Res.pure hk (by simp [execOp]) (copd_rel ht hx) hs
theorem snd_pick (hk:HeapOK P B σ h w) (ht:TOK σ t a) {c x y:Operand} {ac ax ay:AOpd} (hc:copd c=some ac) (hx:copd x=some ax) (hy:copd y=some ay)
    (hs:(AOp.pick ac ax ay).sem (AOpd.ev t) h K):Res P B σ h w ⟨dst,.pick c x y,ty,pos,after,guard⟩ a K:=by
  have rc:=copd_rel ht hc
  have rx:=copd_rel ht hx
  have ry:=copd_rel ht hy
  simp only [AOp.sem] at hs
  split at hs
  · rename_i b hb
    rw [hb] at rc
    simp only [Rel] at rc
    refine Res.pure hk (c:=if b=true then a.eval x else a.eval y) (by simp [execOp,rc,asBool]) ?_ hs
    split <;> assumption
  · cases hs
theorem info_zero {e:TypeId} {zs:List AV} (hz:tyZero P e=some zs):∃ i z,P.info? e=some i∧i.zero=some z∧scalarsAV z.cells.toList=some zs:=by
  unfold tyZero at hz
  split at hz
  · rename_i i hi
    split at hz
    · rename_i z hz'
      exact⟨i,z,hi,hz',hz⟩
    · cases hz
  · cases hz
theorem snd_alloc (hk:HeapOK P B σ h w) {e:TypeId} {zs:List AV} (hz:tyZero P e=some zs) (hs:K (.ptr h.length 0) (h++[.cells zs true])) :
    Res P B σ h w ⟨dst,.alloc e,ty,pos,after,guard⟩ a K:=by
  obtain⟨i,z,hi,hz0,hz1⟩:=info_zero hz
  have hal:=hk.alloc (tail:=[]) e (scalarsAV_rel σ hz1)
  refine⟨.pointer (some ⟨w.heap.size,0,none⟩),w.alloc (.cells z.cells e),_,_,_,.inl ?_,by simpa using hal,?_,Grow.alloc hk.len _ _ _ rfl,hs⟩
  · simp [execOp,Instr.alloc,zeroValue,typeInfo,hi,hz0,newVar,newRow]
  · exact⟨_,(by rw [← hk.len];simp;rfl),rfl⟩
theorem cellsOf_rel {v:AV} {c:Value} {cs:List AV} (hc:cellsOf v=some cs) (hr:Rel σ v c):RelL σ cs c.cells.toList:=by
  cases v <;> simp only [cellsOf,Option.some.injEq,reduceCtorEq] at hc <;> subst hc
  case agg=>obtain⟨a,rfl,h⟩:=hr;exact h
  case slice =>
    have hr':=hr
    rcases hr with⟨_,_,_,rfl⟩|⟨_,_,_,_,rfl,_⟩ <;> exact⟨_,_,rfl,hr',rfl⟩
  case ptr=>have hr':=hr;obtain⟨_,_,rfl⟩:=hr;exact⟨_,_,rfl,hr',rfl⟩
  case map=>have hr':=hr;obtain⟨_,_,rfl⟩:=hr;exact⟨_,_,rfl,hr',rfl⟩
  case yield=>have hr':=hr;obtain⟨_,_,rfl⟩:=hr;exact⟨_,_,rfl,hr',rfl⟩
  case fn=>have hr':=hr;obtain⟨_,_,rfl,_⟩:=hr;exact⟨_,_,rfl,hr',rfl⟩
  case iface=>have hr':=hr;obtain⟨_,rfl,_⟩:=hr;exact⟨_,_,rfl,hr',rfl⟩
  case tuple=>have hr':=hr;obtain⟨_,rfl,_⟩:=hr;exact⟨_,_,rfl,hr',rfl⟩
  all_goals (have hr':=hr;simp only [Rel] at hr;subst hr;exact⟨_,_,rfl,hr',rfl⟩)
theorem snd_box (hk:HeapOK P B σ h w) (ht:TOK σ t a) {e:TypeId} {x:Operand} {ax:AOpd} (hx:copd x=some ax)
    (hs:(AOp.box ax).sem (AOpd.ev t) h K):Res P B σ h w ⟨dst,.box e x,ty,pos,after,guard⟩ a K:=by
  have rx:=copd_rel ht hx
  simp only [AOp.sem] at hs
  split at hs
  · rename_i cs hcs
    have hal:=hk.alloc (tail:=[]) e (cellsOf_rel hcs rx)
    refine⟨.pointer (some ⟨w.heap.size,0,none⟩),w.alloc (.cells (a.eval x).cells e),_,_,_,.inl ?_,by simpa using hal,?_,Grow.alloc hk.len _ _ _ rfl,hs⟩
    · simp [execOp,Instr.box,newVar,newRow]
    · exact⟨_,(by rw [← hk.len];simp;rfl),rfl⟩
  · cases hs
/-! ### Reading cells -/
theorem rd_cells (hk:HeapOK P B σ h w) {id off n:Nat} {vs:List AV} (hr:rd h id off n=some vs) {l:Loc} (hl:σ[id]?=some (some l)) :
    ∃ cs:List Value,RelL σ vs cs∧cs.length=n∧vs.length=n∧∀ (j:Nat) (c:Value),cs[j]?=some c→w.cell? ((⟨l.blk,l.base+off,none⟩:Addr).add j)=some c:=by
  unfold rd at hr
  split at hr
  · rename_i ws own hid
    split at hr
    · rename_i hle
      simp only [Option.some.injEq] at hr
      obtain⟨h0,h1,_⟩:=hk.obj id _ _ hid hl
      have hlen:vs.length=n:=by rw [← hr];simp;omega
      have key:∀ j,j<n→∃ c,w.cell? ⟨l.blk,l.base+(off+j),none⟩=some c:=by
        intro j hj
        obtain⟨c,hc,_⟩:=h1 (off+j) (ws[off+j]'(by omega)) (by simp)
        exact⟨c,hc⟩
      refine⟨(List.range n).map (fun j=>(w.cell? ⟨l.blk,l.base+(off+j),none⟩).getD undef),?_,by simp,hlen,?_⟩
      · refine RelL.of_get (by simp [hlen]) (fun j av cv ha hc=>?_)
        have hj:j<n:=by have:=get_some_lt ha;omega
        rw [List.getElem?_map,List.getElem?_range hj] at hc
        simp only [Option.map_some,Option.some.injEq] at hc
        rw [← hr,List.getElem?_take,if_pos hj,List.getElem?_drop] at ha
        obtain⟨c,h2,h3⟩:=h1 _ _ ha
        rw [h2] at hc;simp only [Option.getD_some] at hc;subst hc;exact h3
      · intro j c hc
        have hj:j<n:=by have:=get_some_lt hc;simpa using this
        rw [List.getElem?_map,List.getElem?_range hj] at hc
        simp only [Option.map_some,Option.some.injEq] at hc
        obtain⟨c',hc'⟩:=key j hj
        rw [hc'] at hc;simp only [Option.getD_some] at hc;subst hc
        have:(⟨l.blk,l.base+off,none⟩:Addr).add j=⟨l.blk,l.base+(off+j),none⟩:=by
          unfold Addr.add;split <;> simp_all [Nat.add_assoc]
        rw [this];exact hc'
    · cases hr
  · cases hr
theorem agg_run {e:TypeId} {b:Bool} (h:tyAgg P e=some b):(isAgg e).run P w=.ok b w:=by
  unfold tyAgg at h
  split at h <;> rename_i hd
  · simp only [Option.some.injEq] at h;subst h;simp [isAgg,run_underlying hd]
  · simp only [Option.some.injEq] at h;subst h;simp [isAgg,run_underlying hd]
  · rename_i d h1 h2
    simp only [Option.some.injEq] at h;subst h
    simp only [isAgg,Sem.run_bind,run_underlying hd,Result.andThen_ok]
    cases d <;> first|rfl|(rename_i fs;exact (h1 fs rfl).elim)|(rename_i n e';exact (h2 n e' rfl).elim)
  · cases h
theorem size_run {e:TypeId} {n:Nat} (h:tySize P e=some n):(sizeOf e).run P w=.ok n w:=by
  unfold tySize at h
  cases hi:P.info? e with
  | none=>simp [hi] at h
  | some i=>simp [hi] at h;subst h;simp [sizeOf,typeInfo,hi]
theorem snd_load1 (hk:HeapOK P B σ h w) (ht:TOK σ t a) {e:TypeId} {x:Operand} {ax:AOpd} (hx:copd x=some ax) (ha:tyAgg P e=some false)
    (hs:(AOp.load1 ax).sem (AOpd.ev t) h K):Res P B σ h w ⟨dst,.load e x,ty,pos,after,guard⟩ a K:=by
  have rx:=copd_rel ht hx
  simp only [AOp.sem] at hs
  split at hs
  · rename_i id off hp
    rw [hp] at rx
    obtain⟨l,hl,hv⟩:=rx
    split at hs
    · rename_i v hrd
      obtain⟨cs,hrel,hlen,_,hcell⟩:=rd_cells hk hrd hl
      simp only [RelL] at hrel
      obtain⟨c,cs',rfl,hr,rfl⟩:=hrel
      have h0:=hcell 0 c rfl
      simp only [Addr.add,if_true] at h0
      refine Res.pure hk (c:=c) ?_ hr hs
      simp [execOp,Instr.loadAt,hv,Instr.sureAddr,loadVar,agg_run ha,h0]
    · cases hs
  · cases hs
theorem snd_loadN (hk:HeapOK P B σ h w) (ht:TOK σ t a) {e:TypeId} {n:Nat} {x:Operand} {ax:AOpd} (hx:copd x=some ax) (ha:tyAgg P e=some true) (hn:tySize P e=some n)
    (hs:(AOp.loadN ax n).sem (AOpd.ev t) h K):Res P B σ h w ⟨dst,.load e x,ty,pos,after,guard⟩ a K:=by
  have rx:=copd_rel ht hx
  simp only [AOp.sem] at hs
  split at hs
  · rename_i id off hp
    rw [hp] at rx
    obtain⟨l,hl,hv⟩:=rx
    split at hs
    · rename_i vs hrd
      obtain⟨cs,hrel,hlen,_,hcell⟩:=rd_cells hk hrd hl
      refine Res.pure hk (c:=.agg cs.toArray) (v:=.agg vs) ?_ ⟨_,rfl,hrel⟩ hs
      have:=run_loadCells_list (P:=P) w _ cs hcell
      rw [hlen] at this
      simp [execOp,Instr.loadAt,hv,Instr.sureAddr,loadVar,agg_run ha,size_run hn,this]
    · cases hs
  · cases hs
/-! ### Writing cells -/
theorem scal_one {v:AV} {c:Value} (hs:scal v=true) (hr:Rel σ v c):c.oneCell'=true:=by
  cases v <;> simp only [scal,Bool.false_eq_true] at hs
  case slice=>rcases hr with⟨_,_,_,rfl⟩|⟨_,_,_,_,rfl,_⟩ <;> rfl
  case ptr=>obtain⟨_,_,rfl⟩:=hr;rfl
  case map=>obtain⟨_,_,rfl⟩:=hr;rfl
  case yield=>obtain⟨_,_,rfl⟩:=hr;rfl
  case fn=>obtain⟨_,_,rfl,_⟩:=hr;rfl
  case iface=>obtain⟨_,rfl,_⟩:=hr;rfl
  all_goals (simp only [Rel] at hr;subst hr;rfl)
theorem scal_all {vs:List AV} {cs:List Value} (hs:vs.all scal=true) (hr:RelL σ vs cs):∀ c∈cs,c.oneCell'=true:=by
  induction vs generalizing cs with
  | nil=>simp only [RelL] at hr;subst hr;simp
  | cons v vs ih =>
    simp only [RelL] at hr
    obtain⟨c,cs',rfl,h1,h2⟩:=hr
    simp only [List.all_cons,Bool.and_eq_true] at hs
    intro x hx
    rcases List.mem_cons.1 hx with rfl|hx
    · exact scal_one hs.1 h1
    · exact ih hs.2 h2 x hx
theorem splice_len {cs vs:List AV} {off:Nat} (h:off+vs.length≤cs.length):(splice cs off vs).length=cs.length:=by
  simp [splice];omega
theorem snd_store (hk:HeapOK P B σ h w) (ht:TOK σ t a) {e:TypeId} {n:Nat} {x y:Operand} {ax ay:AOpd} (hx:copd x=some ax) (hy:copd y=some ay) (hn:tySize P e=some n) (hn0:0<n)
    (hs:(AOp.store ax n ay).sem (AOpd.ev t) h K):Res P B σ h w ⟨dst,.store e x y,ty,pos,after,guard⟩ a K:=by
  have rx:=copd_rel ht hx
  have ry:=copd_rel ht hy
  simp only [AOp.sem] at hs
  split at hs
  · rename_i id off hp
    rw [hp] at rx
    obtain⟨l,hl,hv⟩:=rx
    split at hs
    · rename_i vs hvs
      obtain⟨hlen,hsc,hs⟩:=hs
      have hrel:=cellsOf_rel hvs ry
      split at hs
      · rename_i h' hwr
        unfold wr at hwr
        split at hwr
        · rename_i cs hid
          split at hwr
          · rename_i hle
            simp only [Option.some.injEq] at hwr;subst hwr
            obtain⟨hB,hb,arr,el,hblk,htot,hfit,hrow⟩:=hk.row hid hl
            have hcl:(a.eval y).cells.toList.length=vs.length:=hrel.length.symm
            have hst:=run_storeCells_at P l.blk (l.base+off) el (a.eval y).cells.toList 0 arr w hblk (by rw [hcl];omega) (scal_all hsc hrel)
            simp only [Nat.add_zero] at hst
            have hk':=hk.rerow (vs':=splice cs off vs) (arr':=(arr.toList.take (l.base+off)++(a.eval y).cells.toList++arr.toList.drop (l.base+off+(a.eval y).cells.toList.length)).toArray)
              hid hl (by simp [htot] at *;omega) (by rw [splice_len hle];exact hfit) ?_
            · refine⟨undef,_,[],.tuple [],_,.inr ⟨rfl,?_⟩,by simpa using hk',⟨#[],rfl,rfl⟩,?_,hs⟩
              · have hsz:(a.eval y).cells.size=n:=by rw [← hlen,← hcl];simp
                simp [execOp,Instr.storeAt,hv,Instr.sureAddr,storeVar,size_run hn,hsz,hst]
              · simpa using Grow.write hid hl _
            · rw [splice_len hle,hb,Nat.zero_add,hcl]
              have e1:(arr.toList.take off++(a.eval y).cells.toList++arr.toList.drop (off+vs.length)).take cs.length =
                  (arr.toList.take cs.length).take off++(a.eval y).cells.toList++(arr.toList.take cs.length).drop (off+vs.length):=by
                have l1:(arr.toList.take off).length=off:=by simp;omega
                rw [List.take_append,List.take_append,List.take_take,List.take_take,List.drop_take,l1,List.take_of_length_le (l:=(a.eval y).cells.toList) (by omega)]
                simp only [List.length_append,l1,hcl]
                rw [Nat.min_comm]
              show RelL σ (splice cs off vs) (List.take cs.length (arr.toList.take off++(a.eval y).cells.toList++arr.toList.drop (off+vs.length)))
              rw [e1]
              exact RelL.append (RelL.append (RelL.take off hrow) hrel) (RelL.drop _ hrow)
          · cases hwr
        · cases hwr
      · cases hs
    · cases hs
  · cases hs
end
end Go.Abs
/- Each abstract operation says what the model's operation does. Second half. -/
namespace Go.Abs
open Go.RowKit
variable {P:Program}
section
variable {P:Program} {B:Nat} {σ:Sg} {h:Heap} {w:World} {a:Act} {t:List (Nat × AV)} {K:AV→Heap→Prop}
variable {dst:Option Tmp} {ty:TypeId} {pos:String} {after:Array Edge} {guard:Option (Nat × Bool)}
theorem foldl_set_toList:∀ (vs:List Value) (k off:Nat) (cs:Array Value),off+k+vs.length≤cs.size →
    ((vs.zipIdx k).foldl (fun (cs:Array Value) (p:Value × Nat)=>cs.setIfInBounds (off+p.2) p.1) cs).toList=cs.toList.take (off+k)++vs++cs.toList.drop (off+k+vs.length)
  | [],k,off,cs,_=>by simp
  | v :: vs,k,off,cs,hl=>by
    simp only [List.zipIdx_cons,List.foldl_cons]
    rw [foldl_set_toList vs (k+1) off _ (by simp at hl ⊢;omega)]
    have hk:off+k<cs.toList.length:=by simp at hl ⊢;omega
    simp only [Array.toList_setIfInBounds,List.length_cons]
    rw [show off+(k+1)=off+k+1 by omega,show off+k+(vs.length+1)=off+k+1+vs.length by omega]
    rw [List.drop_set_of_lt (by omega)]
    have:(cs.toList.set (off+k) v).take (off+k+1)=cs.toList.take (off+k)++[v]:=by
      rw [List.take_succ_eq_append_getElem (by simpa using hk)]
      simp [List.take_set]
      exact List.set_eq_of_length_le (by simp;omega)
    rw [this];simp
theorem fill_rel (ht:TOK σ t a) (place:Nat→Option (Nat × Nat)):∀ (ps:List (Nat × Operand)) (aps:List (Nat × Nat × AOpd)),cparts place ps=some aps →
    ∀ (cs:Array Value) (zs out:List AV),RelL σ zs cs.toList→fillA (AOpd.ev t) zs aps=some out →
      ∃ cells,Instr.fill place cs (ps.map (fun p=>(p.1,a.eval p.2)))=some cells∧RelL σ out cells.toList
  | [],aps,hp,cs,zs,out,hr,hf=>by
    simp only [cparts,Option.some.injEq] at hp;subst hp
    simp only [fillA,Option.some.injEq] at hf;subst hf
    exact⟨cs,rfl,hr⟩
  | (i,x) :: ps,aps,hp,cs,zs,out,hr,hf=>by
    simp only [cparts] at hp
    split at hp
    · rename_i off n ax as h1 h2 h3
      simp only [Option.some.injEq] at hp;subst hp
      simp only [fillA] at hf
      split at hf
      · rename_i vs hvs
        split at hf
        · rename_i hc
          have hrel:=cellsOf_rel hvs (copd_rel ht h2)
          have hl1:vs.length=(a.eval x).cells.size:=by simpa using hrel.length
          have hl2:zs.length=cs.size:=by simpa using hr.length
          have hsz:¬ ((a.eval x).cells.size≠n∨cs.size<off+(a.eval x).cells.size):=by omega
          have hfold:=foldl_set_toList (a.eval x).cells.toList 0 off cs (by simp;omega)
          obtain⟨cells,g1,g2⟩:=fill_rel ht place ps as h3 ((a.eval x).cells.zipIdx.foldl (fun (cs:Array Value) (p:Value × Nat)=>cs.setIfInBounds (off+p.2) p.1) cs) _ out (by
            have e:((a.eval x).cells.zipIdx.foldl (fun (cs:Array Value) (p:Value × Nat)=>cs.setIfInBounds (off+p.2) p.1) cs).toList =
              cs.toList.take off++(a.eval x).cells.toList++cs.toList.drop (off+vs.length):=by
              rw [hl1]
              have:=hfold
              simp only [Nat.add_zero] at this
              rw [show (a.eval x).cells.size=(a.eval x).cells.toList.length by simp,← this]
              congr 1
              rw [← Array.foldl_toList];simp
            rw [e]
            exact RelL.append (RelL.append (RelL.take _ hr) hrel) (RelL.drop _ hr)) hf
          refine⟨cells,?_,g2⟩
          simp only [List.map_cons,Instr.fill,h1]
          have:((a.eval x).cells.size != n || decide (off+(a.eval x).cells.size>cs.size))=false:=by
            simp;omega
          simp only [ne_eq,bne_iff_ne] at this ⊢
          rw [if_neg (by simpa using this)]
          exact g1
        · cases hf
      · cases hf
    · cases hp
theorem snd_build (hk:HeapOK P B σ h w) (ht:TOK σ t a) {e:TypeId} {parts:Array (Nat × Operand)} {zs:List AV} {pl:Nat→Option (Nat × Nat)} {aps:List (Nat × Nat × AOpd)}
    (hz:tyZero P e=some zs) (hpl:placesOf P e=some pl) (hp:cparts pl parts.toList=some aps)
    (hs:(AOp.build zs aps).sem (AOpd.ev t) h K):Res P B σ h w ⟨dst,.build e parts,ty,pos,after,guard⟩ a K:=by
  obtain⟨i,z,hi,hz0,hz1⟩:=info_zero hz
  simp only [AOp.sem] at hs
  split at hs
  · rename_i cs hcs
    obtain⟨cells,g1,g2⟩:=fill_rel ht pl _ _ hp z.cells zs cs (scalarsAV_rel σ hz1) hcs
    refine Res.pure hk (c:=.agg cells) (v:=.agg cs) ?_ ⟨_,rfl,g2⟩ hs
    have hb:P.built e (parts.map fun p=>(p.1,a.eval p.2)).toList=some cells:=by
      unfold Program.built
      unfold placesOf at hpl
      rw [Array.toList_map]
      split at hpl
      · rename_i fields hu
        split at hpl
        · rename_i places hp'
          simp only [Option.some.injEq] at hpl;subst hpl
          simp only [hi,hu,hz0,hp']
          simpa using g1
        · cases hpl
      · rename_i n e' hu
        split at hpl
        · rename_i ie hie
          simp only [Option.some.injEq] at hpl;subst hpl
          simp only [hi,hu,hz0,hie]
          exact g1
        · cases hpl
      · cases hpl
    have:=run_build (P:=P) w e _ cells hb
    simp only [execOp,Sem.run_bind]
    rw [show (parts.map fun x=>match x with|(i,x)=>(i,a.eval x))=parts.map fun p=>(p.1,a.eval p.2) from rfl,this]
    simp
  · cases hs
theorem repl_rel {zs:List AV} {cs:List Value} (hr:RelL σ zs cs):∀ n,RelL σ (List.replicate n zs).flatten (List.replicate n cs).flatten
  | 0=>rfl
  | n+1=>by simpa [List.replicate_succ] using RelL.append hr (repl_rel hr n)
theorem zero_cells_eq (z:Array Value) (hz:0<z.size):∀ n,((Array.range (n * z.size)).map (fun i=>z[i % z.size]!)).toList=(List.replicate n z.toList).flatten
  | 0=>by simp
  | n+1=>by
    rw [List.replicate_succ',List.flatten_append,← zero_cells_eq z hz n,Nat.succ_mul]
    apply List.ext_getElem
    · simp
    · intro i h1 h2
      simp only [Array.toList_map,Array.toList_range,List.getElem_map,List.getElem_range]
      by_cases hi:i<n * z.size
      · rw [List.getElem_append_left (by simpa using hi)];simp
      · rw [List.getElem_append_right (by simpa using hi)]
        simp at h1
        have e:i % z.size=i-n * z.size:=by
          have h3:i=(i-n * z.size)+z.size * n:=by rw [Nat.mul_comm z.size n];omega
          rw [h3,Nat.add_mul_mod_self_left,Nat.mod_eq_of_lt (by omega),Nat.mul_comm z.size n];omega
        simp [e]
        rw [getElem!_pos z (i-n * z.size) (by omega)]
theorem bslice_run (ht:TOK σ t a) {s e:TypeId} {len sz:Nat} {parts:Array (Nat × Operand)} {zs cs:List AV} {aps:List (Nat × Nat × AOpd)}
    (hu:P.underlying s=some (.slice e)) (hsz:tySize P e=some sz) (hz:tyZero P e=some zs) (hpos:0<sz) (hzl:zs.length=sz) (hmax:len * sz≤2 ^ 24)
    (hp:cparts (fun i=>some (i * sz,sz)) parts.toList=some aps) (hcs:fillA (AOpd.ev t) (List.replicate len zs).flatten aps=some cs) :
    ∃ cells:Array Value,RelL σ cs cells.toList∧cells.size=len * sz ∧
      (execOp a.eval ⟨dst,.buildSlice s len parts,ty,pos,after,guard⟩).run P w=.ok (.value (.slice (some ⟨w.heap.size,0,none⟩) len len)) (w.alloc (.cells cells e)):=by
  obtain⟨i,z,hi,hz0,hz1⟩:=info_zero hz
  have hi':i.size=sz:=by simpa [tySize,hi] using hsz
  have hrel:=scalarsAV_rel σ hz1
  have hzs:z.cells.size=sz:=by have:=hrel.length;simp at this;omega
  have hzero:((Array.range (len * sz)).map (fun i=>z.cells[i % z.cells.size]!)).toList=(List.replicate len z.cells.toList).flatten:=by
    have:=zero_cells_eq z.cells (by omega) len
    rw [hzs] at this
    rw [hzs];exact this
  obtain⟨cells,g1,g2⟩:=fill_rel ht _ _ _ hp ((Array.range (len * sz)).map (fun i=>z.cells[i % z.cells.size]!)) _ cs (by rw [hzero];exact repl_rel hrel len) hcs
  have hcl:cells.size=len * sz:=by
    have h1:=g2.length
    have h2:∀ (aps:List (Nat × Nat × AOpd)) (zs out:List AV),fillA (AOpd.ev t) zs aps=some out→out.length=zs.length:=by
      intro aps
      induction aps with
      | nil=>intro zs out hf;simp only [fillA,Option.some.injEq] at hf;subst hf;rfl
      | cons p ps ih =>
        intro zs out hf
        obtain⟨off,n,x⟩:=p
        simp only [fillA] at hf
        split at hf
        · split at hf
          · rename_i hc
            rw [ih _ _ hf,splice_len (by omega)]
          · cases hf
        · cases hf
    have h3:=h2 _ _ _ hcs
    have h4:((List.replicate len zs).flatten).length=len * sz:=by simp [hzl]
    simp at h1;omega
  refine⟨cells,g2,hcl,?_⟩
  have hlim:¬ (16777216<len * sz):=by omega
  simp only [execOp,Instr.buildSlice,Sem.run_bind,run_underlying hu,Result.andThen_ok,size_run hsz]
  by_cases h0:len * sz=0
  · have:(Array.range (len * sz)).map (fun i=>z.cells[i % z.cells.size]!)=#[]:=by simp [h0]
    rw [this] at g1
    simp [hlim,h0,newRow]
    have e0:Array.map (fun _:Nat=>(default:Value)) (Array.range 0)=#[]:=by simp
    rw [e0]
    simp [g1]
  · simp [hlim,h0,newRow,zeroValue,typeInfo,hi,hz0]
    simp [g1]
theorem snd_buildSlice (hk:HeapOK P B σ h w) (ht:TOK σ t a) {s e:TypeId} {len sz:Nat} {parts:Array (Nat × Operand)} {zs:List AV} {aps:List (Nat × Nat × AOpd)}
    (hu:P.underlying s=some (.slice e)) (hsz:tySize P e=some sz) (hz:tyZero P e=some zs) (hpos:0<sz) (hzl:zs.length=sz) (hmax:len * sz≤2 ^ 24)
    (hp:cparts (fun i=>some (i * sz,sz)) parts.toList=some aps)
    (hs:(AOp.buildSlice (List.replicate len zs).flatten aps len sz).sem (AOpd.ev t) h K):Res P B σ h w ⟨dst,.buildSlice s len parts,ty,pos,after,guard⟩ a K:=by
  simp only [AOp.sem] at hs
  split at hs
  · rename_i cs hcs
    obtain⟨cells,g2,hcl,hrun⟩:=bslice_run (w:=w) (dst:=dst) (ty:=ty) (pos:=pos) (after:=after) (guard:=guard) ht hu hsz hz hpos hzl hmax hp hcs
    have hal:=hk.alloc (tail:=[]) e g2
    refine⟨.slice (some ⟨w.heap.size,0,none⟩) len len,w.alloc (.cells cells e),_,_,_,.inl hrun,by simpa using hal,?_,Grow.alloc hk.len _ _ _ rfl,hs⟩
    refine .inr ⟨⟨w.heap.size,0,_⟩,0,len,by rw [← hk.len];simp;rfl,rfl,Nat.le_refl _,fun _=>rfl,.inr ⟨rfl,?_⟩⟩
    simp [hcl]
  · cases hs
theorem snd_nilCheck (hk:HeapOK P B σ h w) (ht:TOK σ t a) {x:Operand} {ax:AOpd} (hx:copd x=some ax)
    (hs:(AOp.nilCheck ax).sem (AOpd.ev t) h K):Res P B σ h w ⟨dst,.nilCheck x,ty,pos,after,guard⟩ a K:=by
  have rx:=copd_rel ht hx
  simp only [AOp.sem] at hs
  split at hs
  · rename_i id off hp
    rw [hp] at rx
    have rx':=rx
    obtain⟨l,hl,hv⟩:=rx
    exact Res.pure hk (c:=a.eval x) (by simp [execOp,hv]) rx' hs
  · rename_i f fs cs hp
    rw [hp] at rx
    have rx':=rx
    obtain⟨u,v,hv,_⟩:=rx
    exact Res.pure hk (c:=a.eval x) (by simp [execOp,hv]) rx' hs
  · cases hs
theorem bin_run {op:BinOp} {e:TypeId} {x y:Operand} {u v:Value} {av bv r:AV} (hu:Rel σ av u) (hv:Rel σ bv v) (hr:binA op av bv=some r) :
    ∃ c,(do eqGuard op e x y u v;binOp op e u v:Sem Value).run P w=.ok c w∧Rel σ r c:=by
  unfold binA at hr
  split at hr
  · rename_i k p k' q
    simp only [Rel] at hu hv
    subst hu;subst hv
    split at hr
    · rename_i hkk
      subst hkk
      cases op <;> simp only [Option.some.injEq,reduceCtorEq] at hr <;> subst hr <;>
        exact⟨_,by simp [eqGuard,binOp,Op.intArith,Op.intCmp,Op.intBits];rfl,by simp [Rel];try rfl⟩
    · cases hr
  · rename_i p q
    simp only [Rel] at hu hv
    subst hu;subst hv
    split at hr
    · split at hr
      · rename_i hsz
        simp only [Option.some.injEq] at hr;subst hr
        exact⟨.string (p++q),by simp [eqGuard,binOp,Op.stringOp,IntKind.max,IntKind.bits,IntKind.signed];omega,rfl⟩
      · cases hr
    · simp only [Option.some.injEq] at hr;subst hr
      exact⟨_,by simp [eqGuard,binOp,Op.stringOp],rfl⟩
    · simp only [Option.some.injEq] at hr;subst hr
      exact⟨_,by simp [eqGuard,binOp,Op.stringOp],rfl⟩
    · cases hr
  · cases hr
end
end Go.Abs
/- Each abstract operation says what the model's operation does. Third part. -/
namespace Go.Abs
open Go.RowKit
variable {P:Program}
section
variable {P:Program} {B:Nat} {σ:Sg} {h:Heap} {w:World} {a:Act} {t:List (Nat × AV)} {K:AV→Heap→Prop}
variable {dst:Option Tmp} {ty:TypeId} {pos:String} {after:Array Edge} {guard:Option (Nat × Bool)}
theorem snd_bin (hk:HeapOK P B σ h w) (ht:TOK σ t a) {op:BinOp} {e yt:TypeId} {x y:Operand} {ax ay:AOpd} (hx:copd x=some ax) (hy:copd y=some ay)
    (hs:(AOp.bin op ax ay).sem (AOpd.ev t) h K):Res P B σ h w ⟨dst,.binOp op e x y yt,ty,pos,after,guard⟩ a K:=by
  have rx:=copd_rel ht hx
  have ry:=copd_rel ht hy
  have plain:(∃ v,binA op (ax.ev t) (ay.ev t)=some v∧K v h)→Res P B σ h w ⟨dst,.binOp op e x y yt,ty,pos,after,guard⟩ a K:=by
    rintro⟨v,hv,hK⟩
    obtain⟨c,hc,hr⟩:=bin_run (P:=P) (w:=w) (e:=e) (x:=x) (y:=y) rx ry hv
    refine Res.pure hk (c:=c) ?_ hr hK
    simp only [execOp]
    rw [Sem.run_bind,hc];rfl
  have div:(op=.quo∨op=.rem)→divA op (ax.ev t) (ay.ev t) (fun v=>K v h)→Res P B σ h w ⟨dst,.binOp op e x y yt,ty,pos,after,guard⟩ a K:=by
    intro hop hd
    unfold divA at hd
    split at hd
    · rename_i k p k' q h1 h2
      obtain⟨rfl,hq,hd⟩:=hd
      rw [h1] at rx;rw [h2] at ry
      simp only [Rel] at rx ry
      rcases hop with rfl|rfl
      · refine Res.pure hk (c:=.int k (k.wrap (p.tdiv q))) ?_ (by exact rfl) hd
        simp [execOp,rx,ry,eqGuard,binOp,Op.intDiv,hq]
      · refine Res.pure hk (c:=.int k (p.tmod q)) ?_ (by exact rfl) hd
        simp [execOp,rx,ry,eqGuard,binOp,Op.intDiv,hq]
    · cases hd
  cases op
  case quo=>exact div (.inl rfl) hs
  case rem=>exact div (.inr rfl) hs
  all_goals
    simp only [AOp.sem] at hs
    split at hs
    · rename_i v hv;exact plain ⟨v,hv,hs⟩
    · cases hs
theorem snd_neg (hk:HeapOK P B σ h w) (ht:TOK σ t a) {e:TypeId} {x:Operand} {ax:AOpd} (hx:copd x=some ax)
    (hs:(AOp.neg ax).sem (AOpd.ev t) h K):Res P B σ h w ⟨dst,.unOp .neg e x,ty,pos,after,guard⟩ a K:=by
  have rx:=copd_rel ht hx
  simp only [AOp.sem] at hs
  split at hs
  · rename_i k n hp
    rw [hp] at rx;simp only [Rel] at rx
    exact Res.pure hk (c:=.int k (k.wrap (0-n))) (by simp [execOp,rx,Op.unary,Op.intArith]) (by exact rfl) hs
  · cases hs
theorem snd_not (hk:HeapOK P B σ h w) (ht:TOK σ t a) {e:TypeId} {x:Operand} {ax:AOpd} (hx:copd x=some ax)
    (hs:(AOp.not ax).sem (AOpd.ev t) h K):Res P B σ h w ⟨dst,.unOp .not e x,ty,pos,after,guard⟩ a K:=by
  have rx:=copd_rel ht hx
  simp only [AOp.sem] at hs
  split at hs
  · rename_i b hp
    rw [hp] at rx;simp only [Rel] at rx
    exact Res.pure hk (c:=.bool !b) (by simp [execOp,rx,Op.unary]) (by exact rfl) hs
  · cases hs
theorem snd_conv (hk:HeapOK P B σ h w) (ht:TOK σ t a) {s d:TypeId} {k0 k:IntKind} {x:Operand} {ax:AOpd} (hx:copd x=some ax)
    (h1:P.underlying s=some (.int k0)) (h2:P.underlying d=some (.int k))
    (hs:(AOp.conv k ax).sem (AOpd.ev t) h K):Res P B σ h w ⟨dst,.convert s d x,ty,pos,after,guard⟩ a K:=by
  have rx:=copd_rel ht hx
  simp only [AOp.sem] at hs
  split at hs
  · rename_i k' n hp
    rw [hp] at rx;simp only [Rel] at rx
    exact Res.pure hk (c:=.int k (k.wrap n)) (by simp [execOp,rx,convert,run_underlying h1,run_underlying h2,Conv.intToInt]) (by exact rfl) hs
  · cases hs
theorem snd_mkfn (hk:HeapOK P B σ h w) (ht:TOK σ t a) {f:Fn} {xs ys:Array Operand} {as bs:List AOpd} (hx:copds xs.toList=some as) (hy:copds ys.toList=some bs)
    (hs:(AOp.mkfn f as bs).sem (AOpd.ev t) h K):Res P B σ h w ⟨dst,.makeFunc f xs ys,ty,pos,after,guard⟩ a K :=
  Res.pure hk (c:=.func f (xs.map a.eval) (ys.map a.eval)) (by simp [execOp,Instr.makeFunc])
    (by exact⟨_,_,rfl,by simpa using copds_rel ht hx,by simpa using copds_rel ht hy⟩) hs
theorem addr_add (b o n:Nat):(⟨b,o,none⟩:Addr).add n=⟨b,o+n,none⟩:=by
  unfold Addr.add;split <;> simp_all
theorem snd_fieldAddr (hk:HeapOK P B σ h w) (ht:TOK σ t a) {s:TypeId} {f n:Nat} {fields:Array Field} {fl:Field} {x:Operand} {ax:AOpd} (hx:copd x=some ax)
    (hu:P.underlying s=some (.struct fields)) (hf:fields[f]?=some fl) (hn:tySize P fl.type=some n) (hn0:0<n)
    (hs:(AOp.fieldAddr ax fl.offset).sem (AOpd.ev t) h K):Res P B σ h w ⟨dst,.fieldAddr s x f,ty,pos,after,guard⟩ a K:=by
  have rx:=copd_rel ht hx
  simp only [AOp.sem] at hs
  split at hs
  · rename_i id off hp
    rw [hp] at rx
    obtain⟨l,hl,hv⟩:=rx
    refine Res.pure hk (c:=.pointer (some ⟨l.blk,l.base+(off+fl.offset),none⟩)) ?_ (by exact⟨l,hl,rfl⟩) hs
    have:n≠0:=by omega
    simp [execOp,Instr.fieldAt,run_underlying hu,hf,hv,Instr.sureAddr,fieldPlace,size_run hn,this,addr_add,Nat.add_assoc]
  · cases hs
theorem snd_field1 (hk:HeapOK P B σ h w) (ht:TOK σ t a) {s:TypeId} {f:Nat} {fields:Array Field} {fl:Field} {x:Operand} {ax:AOpd} (hx:copd x=some ax)
    (hu:P.underlying s=some (.struct fields)) (hf:fields[f]?=some fl) (ha:tyAgg P fl.type=some false)
    (hs:(AOp.field1 ax fl.offset).sem (AOpd.ev t) h K):Res P B σ h w ⟨dst,.field s x f,ty,pos,after,guard⟩ a K:=by
  have rx:=copd_rel ht hx
  simp only [AOp.sem] at hs
  split at hs
  · rename_i cs hp
    rw [hp] at rx
    obtain⟨arr,hv,hrel⟩:=rx
    split at hs
    · rename_i v hv'
      obtain⟨c,hc,hr⟩:=hrel.get hv'
      refine Res.pure hk (c:=c) ?_ hr hs
      have hc':arr[fl.offset]?=some c:=by simpa using hc
      simp [execOp,Instr.field,run_underlying hu,hf,hv,asAgg,part,agg_run ha,hc']
    · cases hs
  · cases hs
theorem snd_fieldN (hk:HeapOK P B σ h w) (ht:TOK σ t a) {s:TypeId} {f n:Nat} {fields:Array Field} {fl:Field} {x:Operand} {ax:AOpd} (hx:copd x=some ax)
    (hu:P.underlying s=some (.struct fields)) (hf:fields[f]?=some fl) (ha:tyAgg P fl.type=some true) (hn:tySize P fl.type=some n)
    (hs:(AOp.fieldN ax fl.offset n).sem (AOpd.ev t) h K):Res P B σ h w ⟨dst,.field s x f,ty,pos,after,guard⟩ a K:=by
  have rx:=copd_rel ht hx
  simp only [AOp.sem] at hs
  split at hs
  · rename_i cs hp
    rw [hp] at rx
    obtain⟨arr,hv,hrel⟩:=rx
    refine Res.pure hk (c:=.agg (arr.extract fl.offset (fl.offset+n))) (v:=.agg ((cs.drop fl.offset).take n)) ?_ ⟨_,rfl,?_⟩ hs
    · simp [execOp,Instr.field,run_underlying hu,hf,hv,asAgg,part,agg_run ha,size_run hn]
    · have:=RelL.take n (RelL.drop fl.offset hrel)
      simpa [Array.toList_extract,List.extract_eq_take_drop] using this
  · cases hs
theorem snd_idxSl (hk:HeapOK P B σ h w) (ht:TOK σ t a) {s e:TypeId} {sz:Nat} {x i:Operand} {ax ai:AOpd} (hx:copd x=some ax) (hi:copd i=some ai)
    (hu:P.underlying s=some (.slice e)) (hn:tySize P e=some sz)
    (hs:(AOp.idxSl ax ai sz).sem (AOpd.ev t) h K):Res P B σ h w ⟨dst,.indexAddr s x i,ty,pos,after,guard⟩ a K:=by
  have rx:=copd_rel ht hx
  have ri:=copd_rel ht hi
  simp only [AOp.sem] at hs
  split at hs
  · rename_i id off len sz' ex k n hp hq
    rw [hp] at rx;rw [hq] at ri
    simp only [Rel] at ri
    obtain⟨rfl,h0,h1,hK⟩:=hs
    rcases rx with⟨_,h2,_⟩|⟨l,o,c,hl,hv,hlc,hex,hb⟩
    · omega
    · have hc:c≠0:=by omega
      obtain⟨ho,_⟩:=hb.resolve_left hc
      refine Res.pure hk (c:=.pointer (some ⟨l.blk,l.base+(off+n.toNat * sz'),none⟩)) ?_ (by exact⟨l,hl,rfl⟩) hK
      simp [execOp,Instr.indexAt,run_underlying hu,hv,ri,asIntOf,h0,h1,size_run hn,addr_add,ho,Nat.add_assoc]
  · cases hs
theorem snd_idxArr (hk:HeapOK P B σ h w) (ht:TOK σ t a) {s e:TypeId} {ln sz:Nat} {x i:Operand} {ax ai:AOpd} (hx:copd x=some ax) (hi:copd i=some ai)
    (hu:P.underlying s=some (.array ln e)) (hn:tySize P e=some sz)
    (hs:(AOp.idxArr ax ai ln sz).sem (AOpd.ev t) h K):Res P B σ h w ⟨dst,.indexAddr s x i,ty,pos,after,guard⟩ a K:=by
  have rx:=copd_rel ht hx
  have ri:=copd_rel ht hi
  simp only [AOp.sem] at hs
  split at hs
  · rename_i id off k n hp hq
    rw [hp] at rx;rw [hq] at ri
    simp only [Rel] at ri
    obtain⟨h0,h1,hK⟩:=hs
    obtain⟨l,hl,hv⟩:=rx
    refine Res.pure hk (c:=.pointer (some ⟨l.blk,l.base+(off+n.toNat * sz),none⟩)) ?_ (by exact⟨l,hl,rfl⟩) hK
    simp [execOp,Instr.indexAt,run_underlying hu,hv,ri,asIntOf,Instr.sureAddr,h0,h1,size_run hn,addr_add,Nat.add_assoc]
  · cases hs
theorem snd_index1 (hk:HeapOK P B σ h w) (ht:TOK σ t a) {s e:TypeId} {ln:Nat} {x i:Operand} {ax ai:AOpd} (hx:copd x=some ax) (hi:copd i=some ai)
    (hu:P.underlying s=some (.array ln e)) (ha:tyAgg P e=some false) (hn:tySize P e=some 1)
    (hs:(AOp.index1 ax ai ln).sem (AOpd.ev t) h K):Res P B σ h w ⟨dst,.index s x i,ty,pos,after,guard⟩ a K:=by
  have rx:=copd_rel ht hx
  have ri:=copd_rel ht hi
  simp only [AOp.sem] at hs
  split at hs
  · rename_i cs k n hp hq
    rw [hp] at rx;rw [hq] at ri
    simp only [Rel] at ri
    obtain⟨h0,h1,v,hv',hK⟩:=hs
    obtain⟨arr,hv,hrel⟩:=rx
    obtain⟨c,hc,hr⟩:=hrel.get hv'
    have hc':arr[n.toNat]?=some c:=by simpa using hc
    refine Res.pure hk (c:=c) ?_ hr hK
    simp [execOp,Instr.index,run_underlying hu,hv,ri,asIntOf,h0,h1,size_run hn,part,agg_run ha,hc']
  · cases hs
theorem snd_indexN (hk:HeapOK P B σ h w) (ht:TOK σ t a) {s e:TypeId} {ln sz:Nat} {x i:Operand} {ax ai:AOpd} (hx:copd x=some ax) (hi:copd i=some ai)
    (hu:P.underlying s=some (.array ln e)) (ha:tyAgg P e=some true) (hn:tySize P e=some sz)
    (hs:(AOp.indexN ax ai ln sz).sem (AOpd.ev t) h K):Res P B σ h w ⟨dst,.index s x i,ty,pos,after,guard⟩ a K:=by
  have rx:=copd_rel ht hx
  have ri:=copd_rel ht hi
  simp only [AOp.sem] at hs
  split at hs
  · rename_i cs k n hp hq
    rw [hp] at rx;rw [hq] at ri
    simp only [Rel] at ri
    obtain⟨h0,h1,hK⟩:=hs
    obtain⟨arr,hv,hrel⟩:=rx
    refine Res.pure hk (c:=.agg (arr.extract (n.toNat * sz) (n.toNat * sz+sz))) (v:=.agg ((cs.drop (n.toNat * sz)).take sz)) ?_ ⟨_,rfl,?_⟩ hK
    · simp [execOp,Instr.index,run_underlying hu,hv,ri,asIntOf,h0,h1,size_run hn,part,agg_run ha]
    · have:=RelL.take sz (RelL.drop (n.toNat * sz) hrel)
      simpa [Array.toList_extract,List.extract_eq_take_drop] using this
  · cases hs
theorem snd_extract (hk:HeapOK P B σ h w) (ht:TOK σ t a) {i:Nat} {x:Operand} {ax:AOpd} (hx:copd x=some ax)
    (hs:(AOp.extract ax i).sem (AOpd.ev t) h K):Res P B σ h w ⟨dst,.extract x i,ty,pos,after,guard⟩ a K:=by
  have rx:=copd_rel ht hx
  simp only [AOp.sem] at hs
  split at hs
  · rename_i vs hp
    rw [hp] at rx
    obtain⟨arr,hv,hrel⟩:=rx
    split at hs
    · rename_i v hv'
      obtain⟨c,hc,hr⟩:=hrel.get hv'
      have hc':arr[i]?=some c:=by simpa using hc
      exact Res.pure hk (c:=c) (by simp [execOp,Instr.extract,hv,hc']) hr hs
    · cases hs
  · cases hs
theorem snd_len (hk:HeapOK P B σ h w) (ht:TOK σ t a) {s e:TypeId} {x:Operand} {ax:AOpd} (hx:copd x=some ax)
    (hu:P.underlying s=some (.slice e)) {args:Array Operand} {ats:Array TypeId} (ha:args.toList=[x]) (hts:ats.toList=[s])
    (hs:(AOp.len ax).sem (AOpd.ev t) h K):Res P B σ h w ⟨dst,.call { callee:=.builtin .len,args,argTypes:=ats },ty,pos,after,guard⟩ a K:=by
  have rx:=copd_rel ht hx
  have e1:args=#[x]:=by apply Array.ext';simpa using ha
  have e2:ats=#[s]:=by apply Array.ext';simpa using hts
  subst e1;subst e2
  simp only [AOp.sem] at hs
  split at hs
  · rename_i id off ln sz ex hp
    rw [hp] at rx
    refine Res.pure hk (c:=.int .i64 ln) ?_ (by exact rfl) hs
    rcases rx with⟨_,h2,_,hv⟩|⟨l,o,c,hl,hv,_⟩
    · subst h2;simp [execOp,resolve,invoke,builtin,Builtin.len_,run_underlying hu,hv,goInt]
    · simp [execOp,resolve,invoke,builtin,Builtin.len_,run_underlying hu,hv,goInt]
  · rename_i hp
    rw [hp] at rx;simp only [Rel] at rx
    exact Res.pure hk (c:=.int .i64 0) (by simp [execOp,resolve,invoke,builtin,Builtin.len_,run_underlying hu,rx,goInt]) (by exact rfl) hs
  · cases hs
theorem snd_lenS (hk:HeapOK P B σ h w) (ht:TOK σ t a) {s:TypeId} {x:Operand} {ax:AOpd} (hx:copd x=some ax)
    (hu:P.underlying s=some .string) {args:Array Operand} {ats:Array TypeId} (ha:args.toList=[x]) (hts:ats.toList=[s])
    (hs:(AOp.lenS ax).sem (AOpd.ev t) h K):Res P B σ h w ⟨dst,.call { callee:=.builtin .len,args,argTypes:=ats },ty,pos,after,guard⟩ a K:=by
  have rx:=copd_rel ht hx
  have e1:args=#[x]:=by apply Array.ext';simpa using ha
  have e2:ats=#[s]:=by apply Array.ext';simpa using hts
  subst e1;subst e2
  simp only [AOp.sem] at hs
  split at hs
  · rename_i u hp
    rw [hp] at rx;simp only [Rel] at rx
    exact Res.pure hk (c:=.int .i64 u.size) (by simp [execOp,resolve,invoke,builtin,Builtin.len_,run_underlying hu,rx,goInt]) (by exact rfl) hs
  · cases hs
end
end Go.Abs
/- Each abstract operation says what the model's operation does. Fourth part: slices of slices,append,min and max,comparison of structs. -/
namespace Go.Abs
open Go.RowKit
variable {P:Program}
theorem HeapOK.kill {B:Nat} {σ:Sg} {h:Heap} {w:World} (k:HeapOK P B σ h w) (i:Nat):HeapOK P B σ (h.set i .dead) w:=by
  have hnd:∀ (x:Nat) (ox:AObj),(h.set i .dead)[x]?=some ox→ox.live=true→h[x]?=some ox:=by
    intro x ox hx hv
    rw [List.getElem?_set] at hx
    by_cases hix:i=x
    · subst hix
      split at hx
      · split at hx
        · simp only [Option.some.injEq] at hx;subst hx;simp [AObj.live] at hv
        · cases hx
      · rename_i hne;exact (hne rfl).elim
    · simp only [hix,if_false] at hx;exact hx
  refine⟨by simp [k.len],k.low,?_,?_⟩
  · intro j oj lj hj hlj
    by_cases hv:oj.live=true
    · exact k.obj j oj lj (hnd j oj hj hv) hlj
    · cases oj with
      | dead=>trivial
      | other _=>simp [AObj.live] at hv
      | cells _ _=>simp [AObj.live] at hv
  · intro a b oa ob la lb ha hb hoa hlb hla hlb' hne
    have hav:oa.live=true:=by cases oa <;> simp_all [AObj.isOwn,AObj.live]
    exact k.uniq a b oa ob la lb (hnd a oa ha hav) (hnd b ob hb hlb) hoa hlb hla hlb' hne
section
variable {P:Program} {B:Nat} {σ:Sg} {h:Heap} {w:World} {a:Act} {t:List (Nat × AV)} {K:AV→Heap→Prop}
variable {dst:Option Tmp} {ty:TypeId} {pos:String} {after:Array Edge} {guard:Option (Nat × Bool)}
theorem slice_src (hk:HeapOK P B σ h w) {sz n:Nat} {av:AV} {v:Value} {seg:List AV} (hs:sliceCells h sz av=some (n,seg)) (hr:Rel σ av v) :
    ∃ cs:List Value,RelL σ seg cs∧cs.length=n * sz∧(((∃ b,v=.slice b 0 0)∧n=0) ∨
      ∃ ad c,v=.slice (some ad) n c∧n≤c∧∀ (j:Nat) (u:Value),cs[j]?=some u→w.cell? (ad.add j)=some u):=by
  unfold sliceCells at hs
  split at hs
  · simp only [Option.some.injEq,Prod.mk.injEq] at hs
    obtain⟨rfl,rfl⟩:=hs
    exact⟨[],rfl,by simp,.inl ⟨⟨none,hr⟩,rfl⟩⟩
  · rename_i id off len sz' ex
    split at hs
    · rename_i hsz
      subst hsz
      cases hrd:rd h id off (len * sz') with
      | none=>simp [hrd] at hs
      | some vs =>
        simp only [hrd,Option.map_some,Option.some.injEq,Prod.mk.injEq] at hs
        obtain⟨rfl,rfl⟩:=hs
        rcases hr with⟨h1,h2,h3⟩|⟨l,o,c,hl,hv,hlc,hex,hb⟩
        · subst h2
          have:vs=[]:=by
            unfold rd at hrd
            split at hrd
            · split at hrd
              · simp at hrd;exact hrd
              · cases hrd
            · cases hrd
          subst this
          exact⟨[],rfl,by simp,.inl ⟨h3,rfl⟩⟩
        · obtain⟨cs,g1,g2,g3,g4⟩:=rd_cells hk hrd hl
          refine⟨cs,g1,g2,.inr ⟨⟨l.blk,o,none⟩,c,hv,hlc,?_⟩⟩
          rcases hb with hc|⟨ho,_⟩
          · have:len=0:=by omega
            subst this
            have:cs=[]:=List.eq_nil_of_length_eq_zero (by simpa using g2)
            subst this
            intro j u hj;simp at hj
          · rw [ho];exact g4
    · cases hs
  · cases hs
theorem src_of {e u:TypeId} {sz m:Nat} {v:Value} {cs:List Value} (hu:P.underlying u=some (.slice e)) (hl:cs.length=m * sz) (h1:∀ x∈cs,x.oneCell'=true)
    (h:((∃ b,v=.slice b 0 0)∧m=0)∨∃ ad c,v=.slice (some ad) m c∧m≤c∧∀ (j:Nat) (x:Value),cs[j]?=some x→w.cell? (ad.add j)=some x):Src P sz u v m cs w:=by
  rcases h with⟨⟨b,rfl⟩,rfl⟩|⟨ad,c,rfl,_,hc⟩
  · have:cs=[]:=List.eq_nil_of_length_eq_zero (by simpa using hl)
    subst this
    cases b with
    | none=>exact Src.ofNil w hu 0
    | some ad=>exact Src.ofSlice w hu ad 0 0 [] (by simp) (by simp) (by simp)
  · exact Src.ofSlice w hu ad m c cs hl hc h1
theorem append_new (hk:HeapOK P B σ h w) {s e:TypeId} {i:TypeInfo} {z:Value} {n m c:Nat} {base:Option Addr} {y:Value} {olds news:List Value} {old new:List AV}
    (hu:P.underlying s=some (.slice e)) (hi:P.info? e=some i) (hz:i.zero=some z) (hzs:z.cells.size=i.size)
    (hro:RelL σ old olds) (hrn:RelL σ new news) (hlo:olds.length=n * i.size) (hln:news.length=m * i.size)
    (hold:(Builtin.firstCells i.size n (.slice base n c)).run P w.drew=.ok olds.toArray w.drew) (hsrc:Src P i.size s y m news w)
    (hg:c<n+m) (hb:(n+m) * i.bytes≤140737488355328) (hb0:0<i.bytes) :
    ∃ v w' l,(Builtin.append_ #[s,s] ty #[.slice base n c,y]).run P w=.ok v w'∧HeapOK P B (σ++[some l]) (h++[.cells (old++new) true]) w' ∧
      Rel (σ++[some l]) (.slice h.length 0 (n+m) i.size false) v∧Grow σ h w (σ++[some l]) (h++[.cells (old++new) true]) w':=by
  have h63:((n+m:Nat):Int)≤9223372036854775807:=by
    have:n+m≤(n+m) * i.bytes:=Nat.le_mul_of_pos_right _ hb0
    omega
  have hrun:=run_append_grow_src (P:=P) w s s ty e i z hu hi hz base n c olds hold y m news hsrc hg h63 (growslice_fits hg hb)
  have hk':HeapOK P B σ h w.drew:=hk.heap_eq rfl
  have hge:=grownCap_ge w (n+m) c e
  have hal:=hk'.alloc (tail:=(Builtin.zeroCells z.cells (grownCap w (n+m) c e-(n+m))).toList) e (RelL.append hro hrn)
  have hal':HeapOK P B (σ++[some ⟨w.heap.size,0,(olds++news).length+(Builtin.zeroCells z.cells (grownCap w (n+m) c e-(n+m))).toList.length⟩]) (h++[.cells (old++new) true])
      (w.drew.alloc (.cells ((olds++news).toArray++Builtin.zeroCells z.cells (grownCap w (n+m) c e-(n+m))) e)):=by
    have e0:(olds++news).toArray++Builtin.zeroCells z.cells (grownCap w (n+m) c e-(n+m))=(olds++news++(Builtin.zeroCells z.cells (grownCap w (n+m) c e-(n+m))).toList).toArray:=by
      apply Array.ext';simp
    rw [e0];exact hal
  refine⟨_,_,⟨w.heap.size,0,(olds++news).length+(Builtin.zeroCells z.cells (grownCap w (n+m) c e-(n+m))).toList.length⟩,hrun,hal',?_,?_⟩
  · refine .inr ⟨_,0,_,by rw [← hk.len];simp;rfl,rfl,hge,(by intro hh;cases hh),.inr ⟨rfl,?_⟩⟩
    simp only [Nat.zero_add,List.length_append,Array.length_toList,size_zeroCells,hzs,hlo,hln,← Nat.add_mul]
    exact Nat.mul_le_mul_right _ (by omega)
  · exact (Grow.drew σ h w).trans (Grow.alloc hk.len _ _ _ rfl)
theorem snd_append (hk:HeapOK P B σ h w) (ht:TOK σ t a) {s e:TypeId} {i:TypeInfo} {zs:List AV} {x y:Operand} {ax ay:AOpd} (hx:copd x=some ax) (hy:copd y=some ay)
    (hu:P.underlying s=some (.slice e)) (hi:P.info? e=some i) (hz:tyZero P e=some zs) (hzl:zs.length=i.size) (hpos:0<i.size) (hby:0<i.bytes)
    {args:Array Operand} {ats:Array TypeId} (ha:args.toList=[x,y]) (hts:ats.toList=[s,s])
    (hs:(AOp.append ax ay i.size i.bytes).sem (AOpd.ev t) h K):Res P B σ h w ⟨dst,.call { callee:=.builtin .append,args,argTypes:=ats },ty,pos,after,guard⟩ a K:=by
  have rx:=copd_rel ht hx
  have ry:=copd_rel ht hy
  have e1:args=#[x,y]:=by apply Array.ext';simpa using ha
  have e2:ats=#[s,s]:=by apply Array.ext';simpa using hts
  subst e1;subst e2
  obtain⟨i',z,hi',hz0,hz1⟩:=info_zero hz
  rw [hi] at hi';simp only [Option.some.injEq] at hi';subst hi'
  have hzs:z.cells.size=i.size:=by have:=(scalarsAV_rel σ hz1).length;simp at this;omega
  have fin:∀ (c:Value) (w':World) (τ:Sg) (v:AV) (h':Heap),K v h'→(Builtin.append_ #[s,s] ty #[a.eval x,a.eval y]).run P w=.ok c w'→HeapOK P B (σ++τ) h' w'→Rel (σ++τ) v c→Grow σ h w (σ++τ) h' w' →
      Res P B σ h w ⟨dst,.call { callee:=.builtin .append,args:=#[x,y],argTypes:=#[s,s] },ty,pos,after,guard⟩ a K:=by
    intro c w' τ v h' g4 hr g1 g2 g3
    exact⟨c,w',τ,v,h',.inl (by simp [execOp,resolve,invoke,builtin,hr]),g1,g2,g3,g4⟩
  simp only [AOp.sem] at hs
  split at hs
  · rename_i n old m new hox hoy
    obtain⟨hsc,hb,hs⟩:=hs
    obtain⟨olds,hro,hlo,hvx⟩:=slice_src hk hox rx
    obtain⟨news,hrn,hln,hvy⟩:=slice_src hk hoy ry
    have hsrc:Src P i.size s (a.eval y) m news w:=src_of hu hln (scal_all hsc hrn) hvy
    have hnew0:m=0→new=[]∧news=[]:=by
      intro h0;subst h0
      have h1:news=[]:=List.eq_nil_of_length_eq_zero (by simpa using hln)
      subst h1
      exact⟨List.eq_nil_of_length_eq_zero (by simpa using hrn.length),rfl⟩
    have hold0:∀ b:Option Addr,(Builtin.firstCells i.size 0 (.slice b 0 0)).run P w.drew=.ok #[] w.drew:=fun b=>by
      cases b with
      | none=>exact run_firstCells_none w.drew i.size 0 0 0
      | some ad=>exact run_firstCells_some w.drew i.size 0 ad 0 0 [] (by simp) (by simp)
    split at hs
    · rename_i hnil
      rw [hnil] at rx hox
      simp only [Rel] at rx
      simp only [sliceCells,Option.some.injEq,Prod.mk.injEq] at hox
      obtain⟨rfl,rfl⟩:=hox
      by_cases hm:m=0
      · obtain⟨rfl,rfl⟩:=hnew0 hm
        subst hm
        have hrun:=run_append_nothing (P:=P) w s s ty e i hu hi none 0 0 (Nat.le_refl _) (a.eval y) hsrc
        refine fin _ _ [none] _ _ hs (by rw [rx];exact hrun) (hk.virtual true) ?_ (Grow.addNone hk.len)
        exact .inl ⟨by rw [← hk.len];simp,rfl,_,rfl⟩
      · have hlo':olds=[]:=List.eq_nil_of_length_eq_zero (by simpa using hlo)
        subst hlo'
        obtain⟨v,w',l,g1,g2,g3,g4⟩:=append_new (ty:=ty) hk hu hi hz0 hzs hro hrn hlo hln (hold0 none) hsrc (by omega) hb hby
        rw [Nat.zero_add] at g3
        exact fin _ _ [some l] _ _ hs (by rw [rx];exact g1) g2 g3 g4
    · rename_i id off ln sz' ex hsl
      rw [hsl] at rx hox
      have hsl':=hox
      simp only [sliceCells] at hox
      split at hox
      · rename_i hszz
        subst hszz
        cases hrd:rd h id off (ln * i.size) with
        | none=>simp [hrd] at hox
        | some seg =>
          simp only [hrd,Option.map_some,Option.some.injEq,Prod.mk.injEq] at hox
          obtain⟨rfl,rfl⟩:=hox
          have hfirst:∀ (base:Option Addr) (c:Nat),a.eval x=.slice base ln c→(Builtin.firstCells i.size ln (.slice base ln c)).run P w.drew=.ok olds.toArray w.drew:=by
            intro base c hv
            rcases hvx with⟨⟨b,h1⟩,h2⟩|⟨ad,c',h1,_,h3⟩
            · rw [h1] at hv;cases hv
              have hlo':olds=[]:=List.eq_nil_of_length_eq_zero (by rw [hlo,h2];simp)
              subst hlo'
              exact hold0 _
            · rw [h1] at hv;cases hv
              exact run_firstCells_some w.drew i.size ln ad ln c olds hlo (by simpa using h3)
          split at hs
          · rename_i vs hid
            obtain⟨hoff,hs⟩:=hs
            subst hoff
            have hseg:seg=vs.take (ln * i.size)∧ln * i.size≤vs.length:=by
              unfold rd at hrd
              rw [hid] at hrd
              simp only at hrd
              split at hrd
              · simp only [Option.some.injEq,List.drop_zero] at hrd;exact⟨hrd.symm,by omega⟩
              · cases hrd
            obtain⟨l?,hl?⟩:=hk.sg hid
            have hlt:=get_some_lt hid
            have nothing:∀ (base:Option Addr) (c:Nat),a.eval x=.slice base ln c→ln≤c→m=0→Rel (σ++[l?]) (.slice h.length 0 ln i.size false) (.slice base ln c) →
                Res P B σ h w ⟨dst,.call { callee:=.builtin .append,args:=#[x,y],argTypes:=#[s,s] },ty,pos,after,guard⟩ a K:=by
              intro base c hv hlc hm hrel
              obtain⟨rfl,rfl⟩:=hnew0 hm
              subst hm
              have hrun:=run_append_nothing (P:=P) w s s ty e i hu hi base ln c hlc (a.eval y) hsrc
              have hk1:=(hk.shrink (ln * i.size) hid)
              have hk2:=hk1.move (i:=id) (o:=.cells (vs.take (ln * i.size)) true) (l:=l?) (by simp [hlt]) hl?
              rw [List.set_set] at hk2
              rw [hseg.1,List.append_nil] at hs
              exact fin _ _ [l?] _ _ hs (by rw [hv];exact hrun) hk2 hrel (by have:=(Grow.shrink (σ:=σ) (w:=w) (vs':=vs.take (ln * i.size)) hid).trans (Grow.move (i:=id) (o:=.cells (vs.take (ln * i.size)) true) (l:=l?) (by simp [hk.len]) (by simp [hlt]) hl?);rwa [List.set_set] at this)
            have grow:∀ (base:Option Addr) (c:Nat),a.eval x=.slice base ln c→c<ln+m →
                Res P B σ h w ⟨dst,.call { callee:=.builtin .append,args:=#[x,y],argTypes:=#[s,s] },ty,pos,after,guard⟩ a K:=by
              intro base c hv hc
              obtain⟨v,w',l,g1,g2,g3,g4⟩:=append_new (ty:=ty) (hk.kill id) hu hi hz0 hzs hro hrn hlo hln (hfirst base c hv) hsrc hc hb hby
              rw [List.length_set] at g3
              exact fin _ _ [some l] _ _ hs (by rw [hv];exact g1) g2 g3 ((Grow.kill σ h w id).trans g4)
            rcases rx with⟨h1,h2,b0,h3⟩|⟨l,o,c,hl,hv,hlc,hex,hbd⟩
            · subst h2
              by_cases hm:m=0
              · refine nothing b0 0 h3 (Nat.le_refl _) hm (.inl ⟨?_,rfl,_,rfl⟩)
                rw [← hk.len];simp
              · exact grow b0 0 h3 (by omega)
            · rw [hl] at hl?;simp only [Option.some.injEq] at hl?;subst hl?
              obtain⟨hB,hbase,arr,el,hblk,htot,hfit,hrow⟩:=hk.row hid hl
              have hat:(σ++[some l])[h.length]?=some (some l):=by rw [← hk.len];simp
              by_cases hroom:ln+m≤c
              · by_cases hm:m=0
                · refine nothing _ c hv hlc hm (.inr ⟨l,o,c,hat,rfl,hlc,(by intro hh;cases hh),?_⟩)
                  rcases hbd with hbd|⟨p,q⟩
                  · exact .inl hbd
                  · exact .inr ⟨by omega,by omega⟩
                · have hc:c≠0:=by omega
                  obtain⟨ho,hcap⟩:=hbd.resolve_left hc
                  have ho':o=0:=by omega
                  subst ho'
                  rcases hvy with⟨_,h0⟩|⟨ady,cy,hvy1,_,hvy2⟩
                  · exact (hm h0).elim
                  · have hcs:(ln+m) * i.size≤c * i.size:=Nat.mul_le_mul_right _ hroom
                    have hfit2:ln * i.size+news.length≤arr.size:=by rw [hln,← Nat.add_mul];omega
                    have heel:el=e∨True:=.inr trivial
                    have hst:=run_storeCells_at P l.blk (ln * i.size) el news 0 arr w hblk (by omega) (scal_all hsc hrn)
                    simp only [Nat.add_zero] at hst
                    have hff:=run_firstCells_some (P:=P) w i.size m ady m cy news hln hvy2
                    have hrun:(Builtin.append_ #[s,s] ty #[.slice (some ⟨l.blk,0,none⟩) ln c,.slice (some ady) m cy]).run P w =
                        .ok (.slice (some ⟨l.blk,0,none⟩) (ln+m) c) (w.setRow l.blk (arr.toList.take (ln * i.size)++news++arr.toList.drop (ln * i.size+news.length)).toArray):=by
                      simp [Builtin.append_,run_underlying hu,sizeOf,typeInfo,hi,Builtin.lenOf,hroom,hff,Addr.add_lit,hst]
                    have hsl:seg.length=ln * i.size:=by rw [hseg.1];simp;omega
                    have hnl:new.length=news.length:=hrn.length
                    have hk1:=hk.rerow (vs':=seg++new) (arr':=(arr.toList.take (ln * i.size)++news++arr.toList.drop (ln * i.size+news.length)).toArray) hid hl
                      (by simp [htot] at *;omega) (by simp [hsl,hnl];omega) (by
                        show RelL σ (seg++new) (List.take (seg++new).length (arr.toList.take (ln * i.size)++news++arr.toList.drop (ln * i.size+news.length)))
                        have l1:(arr.toList.take (ln * i.size)++news).length=(seg++new).length:=by simp [hsl,hnl];omega
                        rw [← l1,List.take_left]
                        refine RelL.append ?_ hrn
                        have:=RelL.take (ln * i.size) hrow
                        rw [List.take_take,Nat.min_eq_left hseg.2] at this
                        rw [hseg.1];exact this)
                    have hk2:=hk1.move (i:=id) (o:=.cells (seg++new) true) (l:=some l) (by simp [hlt]) hl
                    rw [List.set_set] at hk2
                    refine fin _ _ [some l] _ _ hs (by rw [hv,hvy1];exact hrun) hk2 ?_ ?_
                    · exact .inr ⟨l,0,c,hat,rfl,hroom,(by intro hh;cases hh),.inr ⟨by omega,by omega⟩⟩
                    · have:=(Grow.write (vs':=seg++new) (w:=w) hid hl (arr.toList.take (ln * i.size)++news++arr.toList.drop (ln * i.size+news.length)).toArray).trans (Grow.move (i:=id) (o:=.cells (seg++new) true) (l:=some l) (by simp [hk.len]) (by simp [hlt]) hl)
                      rwa [List.set_set] at this
              · exact grow _ c hv (by omega)
          · rename_i vs hid
            obtain⟨hexx,hs⟩:=hs
            subst hexx
            by_cases hm:m=0
            · obtain⟨rfl,rfl⟩:=hnew0 hm
              subst hm
              rcases rx with⟨h1,h2,b0,h3⟩|⟨l,o,c,hl,hv,hlc,hex,hbd⟩
              · subst h2
                have hseg:seg=[]:=by
                  have:=hro.length
                  rw [hlo] at this
                  exact List.eq_nil_of_length_eq_zero (by simpa using this)
                subst hseg
                have hrun:=run_append_nothing (P:=P) w s s ty e i hu hi b0 0 0 (Nat.le_refl _) (a.eval y) hsrc
                refine fin _ _ [none] _ _ hs (by rw [h3];exact hrun) (hk.virtual _) ?_ (Grow.addNone hk.len)
                exact .inl ⟨by rw [← hk.len];simp,rfl,_,rfl⟩
              · have hrun:=run_append_nothing (P:=P) w s s ty e i hu hi (some ⟨l.blk,o,none⟩) ln c hlc (a.eval y) hsrc
                have hk1:=hk.alias (off:=off) (vs':=seg) hid hl (by
                  intro j v hj
                  unfold rd at hrd
                  rw [hid] at hrd
                  simp only at hrd
                  split at hrd
                  · simp only [Option.some.injEq] at hrd;subst hrd
                    rw [List.getElem?_take] at hj
                    split at hj
                    · rw [List.getElem?_drop] at hj;exact hj
                    · cases hj
                  · cases hrd)
                rw [List.append_nil] at hs
                refine fin _ _ [some ⟨l.blk,l.base+off,l.tot⟩] _ _ hs (by rw [hv];exact hrun) hk1 ?_ (Grow.addRo hk.len (by rfl) hid rfl hl rfl)
                refine .inr ⟨⟨l.blk,l.base+off,l.tot⟩,o,c,by rw [← hk.len];simp,rfl,hlc,(by intro hh;cases hh),?_⟩
                rcases hbd with hbd|⟨p,q⟩
                · exact .inl hbd
                · exact .inr ⟨by simp;omega,by simp;omega⟩
            · have hd:decide (0<m)=true:=by simp;omega
              rw [hd] at hs
              have grow:∀ (base:Option Addr) (c:Nat),a.eval x=.slice base ln c→c<ln+m →
                  Res P B σ h w ⟨dst,.call { callee:=.builtin .append,args:=#[x,y],argTypes:=#[s,s] },ty,pos,after,guard⟩ a K:=by
                intro base c hv hc
                obtain⟨v,w',l,g1,g2,g3,g4⟩:=append_new (ty:=ty) hk hu hi hz0 hzs hro hrn hlo hln (hfirst base c hv) hsrc hc hb hby
                exact fin _ _ [some l] _ _ hs (by rw [hv];exact g1) g2 g3 g4
              rcases rx with⟨h1,h2,b0,h3⟩|⟨l,o,c,hl,hv,hlc,hex,hbd⟩
              · subst h2;exact grow b0 0 h3 (by omega)
              · exact grow _ c hv (by have:=hex rfl;omega)
          · cases hs
      · cases hox
    · cases hs
  · cases hs
end
end Go.Abs
