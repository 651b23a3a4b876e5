/- The abstract machine: values, objects, operations, code; and how the model's operations and code are read as such. -/
import Derived.ProofKit
import Derived.CallsIn
import Derived.RangeFuncLeaves
import Derived.RangeFuncNested
import Derived.TacticsIn
import Derived.Deep.LoopGhost
import Derived.Scope
set_option linter.unusedSimpArgs false
set_option linter.unusedVariables false
namespace Go.Abs
open Go.RowKit
inductive AV where
  | bool (b : Bool)
  | int (k : IntKind) (n : Int)
  | str (s : ByteArray)
  | ptr (id off : Nat)
  | nil
  | slice (id off len sz : Nat) (ex : Bool)
  | nilslice
  | map (id : Nat)
  | nilmap
  | fn (f : Fn) (first caps : List AV)
  | nilfn
  | yield (id : Nat)
  | iface (t : TypeId) (v : AV)
  | niliface
  | agg (cs : List AV)
  | tuple (vs : List AV)
  | junk
  deriving Inhabited
structure Loc where
  blk : Nat
  base : Nat
  tot : Nat
abbrev Sg := List (Option Loc)
mutual
def Rel (σ : Sg) : AV → Value → Prop
  | .bool b, v => v = .bool b
  | .int k n, v => v = .int k n
  | .str s, v => v = .string s
  | .ptr id off, v => ∃ l, σ[id]? = some (some l) ∧ v = .pointer (some ⟨l.blk, l.base + off, none⟩)
  | .nil, v => v = .pointer none
  | .slice id off len sz ex, v =>
    (id < σ.length ∧ len = 0 ∧ ∃ a, v = .slice a 0 0) ∨
    ∃ l o c, σ[id]? = some (some l) ∧ v = .slice (some ⟨l.blk, o, none⟩) len c ∧ len ≤ c ∧ (ex = true → c = len) ∧
      (c = 0 ∨ (o = l.base + off ∧ l.base + off + c * sz ≤ l.tot))
  | .nilslice, v => v = .slice none 0 0
  | .map id, v => ∃ l, σ[id]? = some (some l) ∧ v = .map (some l.blk)
  | .nilmap, v => v = .map none
  | .fn f first caps, v => ∃ a b, v = .func f a b ∧ RelL σ first a.toList ∧ RelL σ caps b.toList
  | .nilfn, v => v = .nilFunc
  | .yield id, v => ∃ l, σ[id]? = some (some l) ∧ v = .func (.yield l.blk) #[] #[]
  | .iface t x, v => ∃ c, v = .iface t c ∧ Rel σ x c
  | .niliface, v => v = .nilIface
  | .agg cs, v => ∃ a, v = .agg a ∧ RelL σ cs a.toList
  | .tuple cs, v => ∃ a, v = .tuple a ∧ RelL σ cs a.toList
  | .junk, _ => True
def RelL (σ : Sg) : List AV → List Value → Prop
  | [], l => l = []
  | a :: as, l => ∃ v vs, l = v :: vs ∧ Rel σ a v ∧ RelL σ as vs
end
def lk : List (Nat × AV) → Nat → AV
  | [], _ => .junk
  | (k, v) :: r, i => if k = i then v else lk r i
inductive AOpd where
  | t (i : Nat)
  | c (v : AV)
  deriving Inhabited
def AOpd.ev (t : List (Nat × AV)) : AOpd → AV
  | .t i => lk t i
  | .c v => v
inductive EK where
  | bool
  | slice
  | ptr
  | func
  | map
  deriving Inhabited
inductive CK where
  | int
  | bool
  | str
  deriving Inhabited
inductive KK where
  | one (c : CK)
  | row (cs : List CK)
  deriving Inhabited
inductive AOp where
  | mov (x : AOpd)
  | pick (c a b : AOpd)
  | alloc (zs : List AV)
  | box (x : AOpd)
  | build (zs : List AV) (parts : List (Nat × Nat × AOpd))
  | buildSlice (zs : List AV) (parts : List (Nat × Nat × AOpd)) (len sz : Nat)
  | load1 (a : AOpd)
  | loadN (a : AOpd) (n : Nat)
  | store (a : AOpd) (n : Nat) (x : AOpd)
  | nilCheck (x : AOpd)
  | bin (op : BinOp) (x y : AOpd)
  | eqCells (neg : Bool) (offs : List (Nat × CK)) (x y : AOpd)
  | neg (x : AOpd)
  | not (x : AOpd)
  | conv (k : IntKind) (x : AOpd)
  | mkfn (f : Fn) (first caps : List AOpd)
  | fieldAddr (x : AOpd) (off : Nat)
  | field1 (x : AOpd) (off : Nat)
  | fieldN (x : AOpd) (off n : Nat)
  | idxSl (x i : AOpd) (sz : Nat)
  | idxArr (x i : AOpd) (n sz : Nat)
  | index1 (x i : AOpd) (n : Nat)
  | indexN (x i : AOpd) (n sz : Nat)
  | slice (x : AOpd) (lo hi : Option AOpd) (sz : Nat)
  | slice3 (x : AOpd) (lo : Option AOpd) (hi mx : AOpd) (sz : Nat)
  | extract (x : AOpd) (i : Nat)
  | len (x : AOpd)
  | lenS (x : AOpd)
  | append (x y : AOpd) (sz bytes : Nat)
  | min2 (x y : AOpd)
  | max2 (x y : AOpd)
  | eqv (k : EK) (ng : Bool) (x y : AOpd)
  | shift (l : Bool) (x y : AOpd)
  | capS (x : AOpd)
  | sIdx (x i : AOpd)
  | sSlice (x : AOpd) (lo hi : Option AOpd)
  | makeSl (zs : List AV) (sz bytes : Nat) (ln cp : AOpd)
  | makeMap
  | mapGet (ok : Bool) (z : AV) (k : KK) (m i : AOpd)
  | mapPut (k : KK) (m i x : AOpd)
  | mapDel (k : KK) (m i : AOpd)
  | mapClear (m : AOpd)
  | lenM (m : AOpd)
  | rangeM (m : AOpd)
  | nextM (i : AOpd)
  | entryM (i : AOpd)
  | bad
  | callF (f : FuncId) (args : List AOpd)
  | callV (f : AOpd) (args : List AOpd)
  | appZ (zs : List AV) (sz bytes : Nat) (x n : AOpd)
  deriving Inhabited
structure AO where
  dst : Option Nat
  op : AOp
  guard : Option (Nat × Bool)
  deriving Inhabited
inductive AC where
  | skip
  | ops (l : List AO) (live : Option (List Nat))
  | draw (l : List AO) (ps : List (List Nat)) (live : Option (List Nat))
  | seq (a b : AC)
  | cond (c : AOpd) (a b : AC)
  | block (id : Nat) (a : AC)
  | loop (a : AC)
  | scope (a : AC)
  | exit (id : Nat)
  | ret
  | rangeFunc (f : AOpd) (ps : List Nat) (assign body : AC)
  | bad
  deriving Inhabited
inductive Jump where
  | ret
  | exit (id : Nat)
  deriving Inhabited
def Jump.code : Jump → Code
  | .ret => .ret
  | .exit id => .exit id
def Jump.ex : Jump → Exit
  | .ret => .ret
  | .exit id => .exit id
inductive Phase where
  | ready
  | busy
  | done (j : Jump)
  deriving Inhabited
inductive OObj where
  | map (es : List (AV × AV)) (bs : List Nat) (clock : Nat)
  | iter (m : Option Nat) (since : Nat) (seen : List Nat) (last : Nat)
  | loop (t : List (Nat × AV)) (ps : List Nat) (assign body : AC) (ph : Phase)
  deriving Inhabited
inductive AObj where
  | cells (vs : List AV) (own : Bool)
  | other (o : OObj)
  | dead
  deriving Inhabited
abbrev Heap := List AObj
def AObj.isOwn : AObj → Bool
  | .cells _ own => own
  | .other _ => true
  | .dead => false
def AObj.live : AObj → Bool
  | .dead => false
  | _ => true
def cellsOf : AV → Option (List AV)
  | .agg cs => some cs
  | .junk => none
  | v => some [v]
def scal : AV → Bool
  | .agg _ | .tuple _ | .junk => false
  | _ => true
def rd (h : Heap) (id off n : Nat) : Option (List AV) :=
  match h[id]? with
  | some (.cells vs _) => if off + n ≤ vs.length then some ((vs.drop off).take n) else none
  | _ => none
def splice (cs : List AV) (off : Nat) (vs : List AV) : List AV := cs.take off ++ vs ++ cs.drop (off + vs.length)
def wr (h : Heap) (id off : Nat) (vs : List AV) : Option Heap :=
  match h[id]? with
  | some (.cells cs true) => if off + vs.length ≤ cs.length then some (h.set id (.cells (splice cs off vs) true)) else none
  | _ => none
def sliceCells (h : Heap) (sz : Nat) : AV → Option (Nat × List AV)
  | .nilslice => some (0, [])
  | .slice id off len sz' _ => if sz' = sz then (rd h id off (len * sz)).map (Prod.mk len) else none
  | _ => none
def fillA (ev : AOpd → AV) : List AV → List (Nat × Nat × AOpd) → Option (List AV)
  | cs, [] => some cs
  | cs, (off, n, x) :: r =>
    match cellsOf (ev x) with
    | some vs => if vs.length = n ∧ off + n ≤ cs.length then fillA ev (splice cs off vs) r else none
    | none => none
def eqvA : EK → AV → AV → Option Bool
  | .bool, .bool a, .bool b => some (a == b)
  | .slice, .nilslice, .nilslice => some true
  | .slice, .slice _ _ n _ _, .nilslice => if n = 0 then none else some false
  | .slice, .nilslice, .slice _ _ n _ _ => if n = 0 then none else some false
  | .ptr, .nil, .nil => some true
  | .ptr, .ptr _ _, .nil => some false
  | .ptr, .nil, .ptr _ _ => some false
  | .func, .nilfn, .nilfn => some true
  | .func, .fn _ _ _, .nilfn => some false
  | .func, .nilfn, .fn _ _ _ => some false
  | .map, .nilmap, .nilmap => some true
  | .map, .map _, .nilmap => some false
  | .map, .nilmap, .map _ => some false
  | _, _, _ => none
def shiftA (l : Bool) (x y : AV) : Option AV :=
  match x, y with
  | .int k a, .int _ b => if b < 0 then none else some (.int k (if l = true then k.wrap (a * 2 ^ (min b.toNat k.bits)) else a.fdiv (2 ^ (min b.toNat k.bits))))
  | _, _ => none
def binA (op : BinOp) (x y : AV) : Option AV :=
  match x, y with
  | .int k a, .int k' b =>
    if k = k' then
      match op with
      | .add => some (.int k (k.wrap (a + b)))
      | .sub => some (.int k (k.wrap (a - b)))
      | .mul => some (.int k (k.wrap (a * b)))
      | .eql => some (.bool (decide (a = b)))
      | .neq => some (.bool (!decide (a = b)))
      | .lss => some (.bool (decide (a < b)))
      | .leq => some (.bool (decide (a ≤ b)))
      | .gtr => some (.bool (decide (b < a)))
      | .geq => some (.bool (decide (b ≤ a)))
      | .and => some (.int k (k.wrap ((BitVec.ofInt k.bits a &&& BitVec.ofInt k.bits b).toNat : Int)))
      | .or => some (.int k (k.wrap ((BitVec.ofInt k.bits a ||| BitVec.ofInt k.bits b).toNat : Int)))
      | .xor => some (.int k (k.wrap ((BitVec.ofInt k.bits a ^^^ BitVec.ofInt k.bits b).toNat : Int)))
      | .andNot => some (.int k (k.wrap ((BitVec.ofInt k.bits a &&& ~~~BitVec.ofInt k.bits b).toNat : Int)))
      | _ => none
    else none
  | .str a, .str b =>
    match op with
    | .add => if a.size + b.size ≤ 9223372036854775807 then some (.str (a ++ b)) else none
    | .eql => some (.bool (a.toList == b.toList))
    | .neq => some (.bool (!(a.toList == b.toList)))
    | _ => none
  | _, _ => none
def divA (op : BinOp) (x y : AV) (K : AV → Prop) : Prop :=
  match x, y with
  | .int k a, .int k' b =>
    k = k' ∧ b ≠ 0 ∧
      match op with
      | .quo => K (.int k (k.wrap (a.tdiv b)))
      | .rem => K (.int k (a.tmod b))
      | _ => False
  | _, _ => False
def eqCell : CK → AV → AV → Option Bool
  | .int, .int k x, .int k' y => if k = k' then some (decide (x = y)) else none
  | .bool, .bool x, .bool y => some (x == y)
  | .str, .str x, .str y => some (x.toList == y.toList)
  | _, _, _ => none
def eqAt (a b : List AV) : List (Nat × CK) → Option Bool
  | [] => some true
  | (o, c) :: os => match a[o]?, b[o]?, eqAt a b os with
    | some x, some y, some t => match eqCell c x y with
      | some r => some (r && t)
      | none => none
    | _, _, _ => none
def eqRow : List CK → List AV → List AV → Option Bool
  | [], [], [] => some true
  | c :: cs, x :: xs, y :: ys => match eqCell c x y, eqRow cs xs ys with
    | some r, some t => some (r && t)
    | _, _ => none
  | _, _, _ => none
def keyEq : KK → AV → AV → Option Bool
  | .one c, x, y => eqCell c x y
  | .row cs, .agg x, .agg y => eqRow cs x y
  | _, _, _ => none
def findA (k : KK) (x : AV) : List (AV × AV) → Option (Option Nat)
  | [] => some none
  | p :: es => match keyEq k x p.1 with
    | some true => some (some 0)
    | some false => match findA k x es with
      | some (some i) => some (some (i + 1))
      | some none => some none
      | none => none
    | none => none
def mapAt (h : Heap) : AV → Option (List (AV × AV))
  | .nilmap => some []
  | .map id => match h[id]? with
    | some (.other (.map es _ _)) => some es
    | _ => none
  | _ => none
def leftA : List (AV × AV) → List Nat → List Nat → List ((AV × AV) × Nat)
  | p :: es, b :: bs, seen => if seen.contains b = true then leftA es bs seen else (p, b) :: leftA es bs seen
  | _, _, _ => []
def entryA : List (AV × AV) → List Nat → Nat → Option (AV × AV)
  | p :: es, b :: bs, s => if b = s then some p else entryA es bs s
  | _, _, _ => none
def nextAny (x : AV) (h : Heap) (K : AV → Heap → Prop) : Prop :=
  match x with
  | .ptr id 0 => match h[id]? with
    | some (.other (.iter none _ _ _)) => K (.tuple [.bool false]) h
    | some (.other (.iter (some m) since seen last)) => match h[m]? with
      | some (.other (.map es bs c)) => (seen.isEmpty || es.isEmpty || !(bs.all fun b => decide (last ≤ b))) = true ∧ match leftA es bs seen with
        | [] => K (.tuple [.bool false]) h
        | x :: r => ∀ y ∈ x :: r, y.2 < since ∧ K (.tuple [.bool true, y.1.1, y.1.2]) (h.set id (.other (.iter (some m) since (seen ++ [y.2]) c)))
      | _ => False
    | _ => False
  | _ => False
def AOp.sem (o : AOp) (ev : AOpd → AV) (h : Heap) (K : AV → Heap → Prop) : Prop :=
  match o with
  | .mov x => K (ev x) h
  | .pick c a b => match ev c with
    | .bool t => K (if t = true then ev a else ev b) h
    | _ => False
  | .alloc zs => K (.ptr h.length 0) (h ++ [.cells zs true])
  | .box x => match cellsOf (ev x) with
    | some cs => K (.ptr h.length 0) (h ++ [.cells cs true])
    | none => False
  | .build zs parts => match fillA ev zs parts with
    | some cs => K (.agg cs) h
    | none => False
  | .buildSlice zs parts ln sz => match fillA ev zs parts with
    | some cs => K (.slice h.length 0 ln sz true) (h ++ [.cells cs true])
    | none => False
  | .load1 a => match ev a with
    | .ptr id off => match rd h id off 1 with
      | some [v] => K v h
      | _ => False
    | _ => False
  | .loadN a n => match ev a with
    | .ptr id off => match rd h id off n with
      | some vs => K (.agg vs) h
      | none => False
    | _ => False
  | .store a n x => match ev a with
    | .ptr id off => match cellsOf (ev x) with
      | some vs => vs.length = n ∧ vs.all scal = true ∧ match wr h id off vs with
        | some h' => K (.tuple []) h'
        | none => False
      | none => False
    | _ => False
  | .nilCheck x => match ev x with
    | .ptr id off => K (.ptr id off) h
    | .fn (.func f) a b => K (.fn (.func f) a b) h
    | _ => False
  | .bin op x y => match op with
    | .quo | .rem => divA op (ev x) (ev y) (fun v => K v h)
    | _ => match binA op (ev x) (ev y) with
      | some v => K v h
      | none => False
  | .eqCells ng offs x y => match ev x, ev y with
    | .agg a, .agg b => match eqAt a b offs with
      | some t => K (.bool (if ng = true then !t else t)) h
      | none => False
    | _, _ => False
  | .neg x => match ev x with
    | .int k n => K (.int k (k.wrap (0 - n))) h
    | _ => False
  | .not x => match ev x with
    | .bool b => K (.bool !b) h
    | _ => False
  | .conv k x => match ev x with
    | .int _ n => K (.int k (k.wrap n)) h
    | _ => False
  | .mkfn f first caps => K (.fn f (first.map ev) (caps.map ev)) h
  | .fieldAddr x off => match ev x with
    | .ptr id o => K (.ptr id (o + off)) h
    | _ => False
  | .field1 x off => match ev x with
    | .agg cs => match cs[off]? with
      | some v => K v h
      | none => False
    | _ => False
  | .fieldN x off n => match ev x with
    | .agg cs => K (.agg ((cs.drop off).take n)) h
    | _ => False
  | .idxSl x i sz => match ev x, ev i with
    | .slice id off ln sz' _, .int _ n => sz' = sz ∧ 0 ≤ n ∧ n < ln ∧ K (.ptr id (off + n.toNat * sz)) h
    | _, _ => False
  | .idxArr x i ln sz => match ev x, ev i with
    | .ptr id off, .int _ n => 0 ≤ n ∧ n < ln ∧ K (.ptr id (off + n.toNat * sz)) h
    | _, _ => False
  | .index1 x i ln => match ev x, ev i with
    | .agg cs, .int _ n => 0 ≤ n ∧ n < ln ∧ ∃ v, cs[n.toNat]? = some v ∧ K v h
    | _, _ => False
  | .indexN x i ln sz => match ev x, ev i with
    | .agg cs, .int _ n => 0 ≤ n ∧ n < ln ∧ K (.agg ((cs.drop (n.toNat * sz)).take sz)) h
    | _, _ => False
  | .slice x lo hi sz => match ev x, (lo.map ev).getD (.int .i64 0) with
    | .slice id off ln sz' ex, .int _ l =>
      match (hi.map ev).getD (.int .i64 ln) with
      | .int _ m => sz' = sz ∧ 0 ≤ l ∧ l ≤ m ∧ m ≤ ln ∧ K (.slice id (off + l.toNat * sz) (m.toNat - l.toNat) sz (ex && decide (m = ln))) h
      | _ => False
    | .nilslice, .int _ l =>
      match (hi.map ev).getD (.int .i64 0) with
      | .int _ m => l = 0 ∧ m = 0 ∧ K .nilslice h
      | _ => False
    | _, _ => False
  | .slice3 x lo hi mx sz => match ev x, (lo.map ev).getD (.int .i64 0), ev hi, ev mx with
    | .slice id off ln sz' _, .int _ l, .int _ m, .int _ c => sz' = sz ∧ 0 ≤ l ∧ l ≤ m ∧ m ≤ c ∧ c ≤ ln ∧ K (.slice id (off + l.toNat * sz) (m.toNat - l.toNat) sz (decide (m = c))) h
    | _, _, _, _ => False
  | .extract x i => match ev x with
    | .tuple vs => match vs[i]? with
      | some v => K v h
      | none => False
    | _ => False
  | .len x => match ev x with
    | .slice _ _ ln _ _ => K (.int .i64 ln) h
    | .nilslice => K (.int .i64 0) h
    | _ => False
  | .lenS x => match ev x with
    | .str s => K (.int .i64 s.size) h
    | _ => False
  | .append x y sz bytes => match sliceCells h sz (ev x), sliceCells h sz (ev y) with
    | some (n, old), some (m, new) => new.all scal = true ∧ (n + m) * bytes ≤ 140737488355328 ∧
      match ev x with
      | .nilslice => K (.slice h.length 0 m sz false) (h ++ [.cells new true])
      | .slice id off _ _ ex => match h[id]? with
        | some (.cells _ true) => off = 0 ∧ K (.slice h.length 0 (n + m) sz false) (h.set id .dead ++ [.cells (old ++ new) true])
        | some (.cells _ false) => ex = true ∧ K (.slice h.length 0 (n + m) sz false) (h ++ [.cells (old ++ new) (decide (0 < m))])
        | _ => False
      | _ => False
    | _, _ => False
  | .min2 x y => match ev x, ev y with
    | .int k a, .int _ b => K (.int k (if b < a then b else a)) h
    | _, _ => False
  | .max2 x y => match ev x, ev y with
    | .int k a, .int _ b => K (.int k (if a < b then b else a)) h
    | _, _ => False
  | .eqv k ng x y => match eqvA k (ev x) (ev y) with
    | some t => K (.bool (if ng = true then !t else t)) h
    | none => False
  | .shift l x y => match shiftA l (ev x) (ev y) with
    | some v => K v h
    | none => False
  | .capS x => match ev x with
    | .nilslice => K (.int .i64 0) h
    | .slice _ _ ln _ true => K (.int .i64 ln) h
    | _ => False
  | .sIdx x i => match ev x, ev i with
    | .str s, .int _ n => 0 ≤ n ∧ match s[n.toNat]? with
      | some b => K (.int .u8 b.toNat) h
      | none => False
    | _, _ => False
  | .sSlice x lo hi => match ev x, (lo.map ev).getD (.int .i64 0) with
    | .str s, .int _ l => match (hi.map ev).getD (.int .i64 s.size) with
      | .int _ m => 0 ≤ l ∧ l ≤ m ∧ m ≤ s.size ∧ K (.str (s.extract l.toNat m.toNat)) h
      | _ => False
    | _, _ => False
  | .makeSl zs sz bytes ln cp => match ev ln, ev cp with
    | .int _ n, .int _ c => 0 ≤ n ∧ n ≤ c ∧ (bytes : Int) * c ≤ 281474976710656 ∧ c ≤ 9223372036854775807 ∧ K (.slice h.length 0 n.toNat sz (decide (n = c))) (h ++ [.cells (List.replicate c.toNat zs).flatten true])
    | _, _ => False
  | .appZ zs sz bytes x n => match ev x, ev n with
    | .nilslice, .int _ m => 0 < m ∧ m.toNat * bytes ≤ 140737488355328 ∧ K (.slice h.length 0 m.toNat sz false) (h ++ [.cells (List.replicate m.toNat zs).flatten true])
    | _, _ => False
  | .makeMap => K (.map h.length) (h ++ [.other (.map [] [] 0)])
  | .mapGet ok z k m i => (keyEq k (ev i) (ev i)).isSome = true ∧ match mapAt h (ev m) with
    | some es => match findA k (ev i) es with
      | some (some n) => match es[n]? with
        | some p => K (if ok = true then .tuple [p.2, .bool true] else p.2) h
        | none => False
      | some none => K (if ok = true then .tuple [z, .bool false] else z) h
      | none => False
    | none => False
  | .mapPut k m i x => (keyEq k (ev i) (ev i)).isSome = true ∧ match ev m with
    | .map id => match h[id]? with
      | some (.other (.map es bs c)) => match findA k (ev i) es with
        | some (some n) => K (.tuple []) (h.set id (.other (.map (es.set n (ev i, ev x)) bs c)))
        | some none => K (.tuple []) (h.set id (.other (.map (es ++ [(ev i, ev x)]) (bs ++ [c]) (c + 1))))
        | none => False
      | _ => False
    | _ => False
  | .mapDel k m i => (keyEq k (ev i) (ev i)).isSome = true ∧ match ev m with
    | .map id => match h[id]? with
      | some (.other (.map es bs c)) => match findA k (ev i) es with
        | some (some n) => K (.tuple []) (h.set id (.other (.map (es.eraseIdx n) (bs.eraseIdx n) c)))
        | some none => K (.tuple []) h
        | none => False
      | _ => False
    | _ => False
  | .mapClear m => match ev m with
    | .map id => match h[id]? with
      | some (.other (.map _ _ c)) => K (.tuple []) (h.set id (.other (.map [] [] c)))
      | _ => False
    | _ => False
  | .lenM m => match mapAt h (ev m) with
    | some es => K (.int .i64 es.length) h
    | none => False
  | .rangeM m => match ev m with
    | .nilmap => K (.ptr h.length 0) (h ++ [.other (.iter none 0 [] 0)])
    | .map id => match h[id]? with
      | some (.other (.map _ _ c)) => K (.ptr h.length 0) (h ++ [.other (.iter (some id) c [] c)])
      | _ => False
    | _ => False
  | .nextM i => match ev i with
    | .ptr id 0 => match h[id]? with
      | some (.other (.iter none _ _ _)) => K (.tuple [.bool false]) h
      | some (.other (.iter (some m) since seen last)) => match h[m]? with
        | some (.other (.map es bs c)) => (seen.isEmpty || es.isEmpty || !(bs.all fun b => decide (last ≤ b))) = true ∧ match leftA es bs seen with
          | [] => K (.tuple [.bool false]) h
          | [(p, b)] => b < since ∧ K (.tuple [.bool true, p.1, p.2]) (h.set id (.other (.iter (some m) since (seen ++ [b]) c)))
          | _ => False
        | _ => False
      | _ => False
    | _ => False
  | .entryM i => match ev i with
    | .ptr id 0 => match h[id]? with
      | some (.other (.iter (some m) _ seen last)) => match seen.getLast? with
        | some b => match h[m]? with
          | some (.other (.map es bs c)) => c = last ∧ match entryA es bs b with
            | some p => K (.tuple [p.1, p.2]) h
            | none => False
          | _ => False
        | none => False
      | _ => False
    | _ => False
  | .bad => False
  | .callF _ _ | .callV _ _ => False
theorem next_any {i : AOpd} {ev : AOpd → AV} {h : Heap} {K : AV → Heap → Prop} (hs : (AOp.nextM i).sem ev h K) : nextAny (ev i) h K := by
  simp only [AOp.sem] at hs
  unfold nextAny
  split at hs
  · split at hs
    · exact hs
    · split at hs
      · refine ⟨hs.1, ?_⟩
        have h2 := hs.2
        split at h2
        · rename_i hl; rw [hl]; exact h2
        · rename_i hl
          rw [hl]
          intro y hy
          simp only [List.mem_singleton] at hy
          subst hy; exact h2
        · cases h2
      · cases hs
    · cases hs
  · cases hs
def AOp.semN (o : AOp) (ev : AOpd → AV) (h : Heap) (K : AV → Heap → Prop) : Prop :=
  match o with
  | .nextM i => nextAny (ev i) h K
  | o => o.sem ev h K
theorem semN_of {o : AOp} {ev : AOpd → AV} {h : Heap} {K : AV → Heap → Prop} (hs : o.sem ev h K) : o.semN ev h K := by
  cases o <;> first | exact hs | exact next_any hs
def scalarAV : Value → Option AV
  | .bool b => some (.bool b)
  | .int k n => some (.int k n)
  | .string s => some (.str s)
  | .pointer none => some .nil
  | .slice none 0 0 => some .nilslice
  | .map none => some .nilmap
  | .nilFunc => some .nilfn
  | .nilIface => some .niliface
  | _ => none
def scalarsAV : List Value → Option (List AV)
  | [] => some []
  | v :: vs => match scalarAV v, scalarsAV vs with
    | some a, some as => some (a :: as)
    | _, _ => none
def constAV : Value → Option AV
  | .agg cs => (scalarsAV cs.toList).map .agg
  | v => scalarAV v
def copd : Operand → Option AOpd
  | .tmp i => some (.t i)
  | .const v => (constAV v).map .c
  | .func f => some (.c (.fn (.func f) [] []))
  | .global _ => none
def copds : List Operand → Option (List AOpd)
  | [] => some []
  | x :: xs => match copd x, copds xs with
    | some a, some as => some (a :: as)
    | _, _ => none
section
variable (P : Program)
def tyZero (t : TypeId) : Option (List AV) := match P.info? t with
  | some i => match i.zero with
    | some z => scalarsAV z.cells.toList
    | none => none
  | none => none
def tySize (t : TypeId) : Option Nat := (P.info? t).map (·.size)
def tyAgg (t : TypeId) : Option Bool := match P.underlying t with
  | some (.struct _) | some (.array _ _) => some true
  | some _ => some false
  | none => none
def placesOf (t : TypeId) : Option (Nat → Option (Nat × Nat)) := match P.underlying t with
  | some (.struct fields) => match fields.toList.mapM (fun f => (P.info? f.type).map fun i => (f.offset, i.size)) with
    | some places => some (fun i => places[i]?)
    | none => none
  | some (.array _ e) => match P.info? e with
    | some ie => some (fun i => some (i * ie.size, ie.size))
    | none => none
  | _ => none
def cparts (place : Nat → Option (Nat × Nat)) : List (Nat × Operand) → Option (List (Nat × Nat × AOpd))
  | [] => some []
  | (i, x) :: r => match place i, copd x, cparts place r with
    | some (off, n), some a, some as => some ((off, n, a) :: as)
    | _, _, _ => none
def eqOffs : Nat → TypeId → Option (List (Nat × CK))
  | 0, _ => none
  | n + 1, t => match P.underlying t with
    | some (.int _) => if tySize P t = some 1 then some [(0, .int)] else none
    | some .bool => if tySize P t = some 1 then some [(0, .bool)] else none
    | some .string => if tySize P t = some 1 then some [(0, .str)] else none
    | some (.struct fields) => if P.stoodInHeld t then none else fields.toList.foldr (fun f r => match eqOffs n f.type, tySize P f.type, r with
        | some os, some sz, some r => if f.name ≠ "_" ∧ os.all (fun o => decide (o.1 < sz)) = true then some (os.map (fun o => (f.offset + o.1, o.2)) ++ r) else none
        | _, _, _ => none) (some [])
    | some (.array m e) => match eqOffs n e, tySize P e with
      | some os, some sz => if os.all (fun o => decide (o.1 < sz)) = true then some ((List.range m).flatMap fun i => os.map (fun o => (i * sz + o.1, o.2))) else none
      | _, _ => none
    | _ => none
def keyKind (t : TypeId) : Option KK := match P.underlying t with
  | some (.int _) => some (.one .int)
  | some .bool => some (.one .bool)
  | some .string => some (.one .str)
  | some (.struct _) | some (.array _ _) => match eqOffs P 20 t with
    | some os => if os.map (·.1) = List.range os.length ∧ tyAgg P t = some true then some (.row (os.map (·.2))) else none
    | none => none
  | _ => none
def mapKind (t : TypeId) : Option (KK × AV) := match P.underlying t with
  | some (.map k e) => match keyKind P k, (P.info? e).bind (·.zero) with
    | some kk, some z => match constAV z with
      | some z => some (kk, z)
      | none => none
    | _, _ => none
  | _ => none
def guardFun (f : FuncId) : Bool := match P.funcs[f]? with
  | some fn => fn.body.isSome && fn.name != "runtime.NumGoroutine"
  | none => false
def cop (o : Oper) : Option AOp :=
  match o.op with
  | .move x | .assign x => (copd x).map .mov
  | .pick c a b => match copd c, copd a, copd b with
    | some c, some a, some b => some (.pick c a b)
    | _, _, _ => none
  | .alloc e => (tyZero P e).map .alloc
  | .box _ x => (copd x).map .box
  | .build t parts => match P.info? t, tyZero P t, placesOf P t with
    | some _, some zs, some pl => (cparts pl parts.toList).map (.build zs)
    | _, _, _ => none
  | .buildSlice t len parts => match P.underlying t with
    | some (.slice e) => match tySize P e, tyZero P e with
      | some sz, some zs => if 0 < sz ∧ zs.length = sz ∧ len * sz ≤ 2 ^ 24 then (cparts (fun i => some (i * sz, sz)) parts.toList).map fun ps => .buildSlice (List.replicate len zs).flatten ps len sz else none
      | _, _ => none
    | _ => none
  | .load t a => match tyAgg P t, tySize P t, copd a with
    | some true, some n, some a => some (.loadN a n)
    | some false, some _, some a => some (.load1 a)
    | _, _, _ => none
  | .store t a x => match tySize P t, copd a, copd x with
    | some n, some a, some x => if 0 < n then some (.store a n x) else none
    | _, _, _ => none
  | .nilCheck x => (copd x).map .nilCheck
  | .binOp op t x y _ => match copd x, copd y with
    | some x, some y => match op with
      | .eql | .neq => match P.underlying t with
        | some (.int _) | some .string => some (.bin op x y)
        | some .bool => some (.eqv .bool (op matches .neq) x y)
        | some (.slice _) => some (.eqv .slice (op matches .neq) x y)
        | some (.pointer _) => some (.eqv .ptr (op matches .neq) x y)
        | some (.func _ _ _) => some (.eqv .func (op matches .neq) x y)
        | some (.map _ _) => some (.eqv .map (op matches .neq) x y)
        | some (.struct _) | some (.array _ _) => match eqOffs P 20 t with
          | some offs => if P.eqGuardType P.depth t ∨ tyAgg P t ≠ some true then none else some (.eqCells (op matches .neq) offs x y)
          | none => none
        | _ => none
      | .shl => some (.shift true x y)
      | .shr => some (.shift false x y)
      | _ => some (.bin op x y)
    | _, _ => none
  | .unOp op _ x => match op, copd x with
    | .neg, some x => some (.neg x)
    | .not, some x => some (.not x)
    | _, _ => none
  | .convert s t x => match P.underlying s, P.underlying t, copd x with
    | some (.int _), some (.int k), some x => some (.conv k x)
    | _, _, _ => none
  | .makeFunc f first caps => match copds first.toList, copds caps.toList with
    | some a, some b => some (.mkfn f a b)
    | _, _ => none
  | .fieldAddr s x f => match P.underlying s, copd x with
    | some (.struct fields), some x => match fields[f]? with
      | some fl => match tySize P fl.type with
        | some n => if 0 < n then some (.fieldAddr x fl.offset) else none
        | none => none
      | none => none
    | _, _ => none
  | .field s x f => match P.underlying s, copd x with
    | some (.struct fields), some x => match fields[f]? with
      | some fl => match tyAgg P fl.type, tySize P fl.type with
        | some true, some n => some (.fieldN x fl.offset n)
        | some false, some _ => some (.field1 x fl.offset)
        | _, _ => none
      | none => none
    | _, _ => none
  | .indexAddr t x i => match P.underlying t, copd x, copd i with
    | some (.slice e), some x, some i => (tySize P e).map (.idxSl x i)
    | some (.array n e), some x, some i => (tySize P e).map (.idxArr x i n)
    | _, _, _ => none
  | .index t x i => match P.underlying t, copd x, copd i with
    | some (.array n e), some x, some i => match tyAgg P e, tySize P e with
      | some true, some sz => some (.indexN x i n sz)
      | some false, some 1 => some (.index1 x i n)
      | _, _ => none
    | some .string, some x, some i => some (.sIdx x i)
    | _, _, _ => none
  | .makeMap _ none => some .makeMap
  | .lookup t m i ok => match mapKind P t, copd m, copd i with
    | some (k, z), some m, some i => some (.mapGet ok z k m i)
    | _, _, _ => none
  | .mapUpdate t m i x => match mapKind P t, copd m, copd i, copd x with
    | some (k, _), some m, some i, some x => some (.mapPut k m i x)
    | _, _, _, _ => none
  | .range t x => match P.underlying t, copd x with
    | some (.map _ _), some x => some (.rangeM x)
    | _, _ => none
  | .next it false => (copd it).map .nextM
  | .entry it => (copd it).map .entryM
  | .makeSlice t ln cp => match P.underlying t, copd ln, copd cp with
    | some (.slice e), some ln, some cp => match P.info? e, tyZero P e with
      | some i, some zs => if zs.length = i.size ∧ 0 < i.size then some (.makeSl zs i.size i.bytes ln cp) else none
      | _, _ => none
    | _, _, _ => none
  | .slice t x lo hi mx => match P.underlying t, copd x with
    | some .string, some x => match lo.map copd, hi.map copd, mx with
      | some none, _, _ | _, some none, _ => none
      | l, m, none => some (.sSlice x (l.bind id) (m.bind id))
      | _, _, _ => none
    | some (.slice e), some x => match tySize P e with
      | some sz =>
        let lo' := lo.map copd
        let hi' := hi.map copd
        match lo', hi', mx.map copd with
        | some none, _, _ | _, some none, _ | _, _, some none => none
        | l, m, none => some (.slice x (l.bind id) (m.bind id) sz)
        | l, some (some m), some (some c) => some (.slice3 x (l.bind id) m c sz)
        | _, none, some _ => none
      | none => none
    | _, _ => none
  | .extract x i => (copd x).map (.extract · i)
  | .call c => match c.callee with
    | .builtin .len => match c.args.toList, c.argTypes.toList with
      | [x], [t] => match P.underlying t with
        | some (.slice _) => (copd x).map .len
        | some .string => (copd x).map .lenS
        | some (.map _ _) => (copd x).map .lenM
        | _ => none
      | _, _ => none
    | .builtin .delete => match c.args.toList, c.argTypes.toList with
      | [m, i], t :: _ => match mapKind P t, copd m, copd i with
        | some (k, _), some m, some i => some (.mapDel k m i)
        | _, _, _ => none
      | _, _ => none
    | .builtin .clear => match c.args.toList, c.argTypes.toList with
      | [m], [t] => match P.underlying t with
        | some (.map _ _) => (copd m).map .mapClear
        | _ => none
      | _, _ => none
    | .builtin .cap => match c.args.toList, c.argTypes.toList with
      | [x], [t] => match P.underlying t with
        | some (.slice _) => (copd x).map .capS
        | _ => none
      | _, _ => none
    | .builtin .append => match c.args.toList, c.argTypes.toList with
      | [x, y], [t, u] => if t = u then match P.underlying t with
          | some (.slice e) => match P.info? e, tyZero P e, copd x, copd y with
            | some i, some zs, some x, some y => if zs.length = i.size ∧ 0 < i.size ∧ 0 < i.bytes then some (.append x y i.size i.bytes) else none
            | _, _, _, _ => none
          | _ => none
        else match P.underlying t, P.underlying u with
          | some (.slice e), some (.int _) => match P.info? e, tyZero P e, copd x, copd y with
            | some i, some zs, some x, some y => if zs.length = i.size ∧ 0 < i.size ∧ 0 < i.bytes then some (.appZ zs i.size i.bytes x y) else none
            | _, _, _, _ => none
          | _, _ => none
      | _, _ => none
    | .builtin .min => match copds c.args.toList with
      | some [x, y] => some (.min2 x y)
      | _ => none
    | .builtin .max => match copds c.args.toList with
      | some [x, y] => some (.max2 x y)
      | _ => none
    | .builtin _ => none
    | .invoke _ _ => none
    | .value (.func f) => if guardFun P f then (copds c.args.toList).map (.callF f) else none
    | .value f => match copd f, copds c.args.toList with
      | some f, some as => some (.callV f as)
      | _, _ => none
  | _ => none
end
def AOp.cls : AOp → Nat
  | .load1 _ | .loadN _ _ | .mapGet _ _ _ _ _ | .lenM _ | .entryM _ => 1
  | .alloc _ | .box _ | .buildSlice _ _ _ _ | .makeSl _ _ _ _ _ | .makeMap => 2
  | .store _ _ _ | .append _ _ _ _ | .appZ _ _ _ _ _ | .mapPut _ _ _ _ | .mapDel _ _ _ | .mapClear _ | .rangeM _ | .nextM _ | .callF _ _ | .callV _ _ => 3
  | _ => 0
def opdSlots : AOpd → List Nat
  | .t i => [i]
  | .c _ => []
def opdsSlots : List AOpd → List Nat
  | [] => []
  | x :: xs => opdSlots x ++ opdsSlots xs
def partSlots : List (Nat × Nat × AOpd) → List Nat
  | [] => []
  | (_, _, x) :: xs => opdSlots x ++ partSlots xs
def AOp.slots : AOp → List Nat
  | .mov x | .box x | .load1 x | .loadN x _ | .nilCheck x | .neg x | .not x | .conv _ x | .fieldAddr x _ | .field1 x _ | .fieldN x _ _ | .extract x _ | .len x | .lenS x => opdSlots x
  | .pick a b c => opdSlots a ++ opdSlots b ++ opdSlots c
  | .alloc _ | .bad => []
  | .eqv _ _ x y | .shift _ x y | .sIdx x y | .makeSl _ _ _ x y | .appZ _ _ _ x y => opdSlots x ++ opdSlots y
  | .capS x | .mapClear x | .lenM x | .rangeM x | .nextM x | .entryM x => opdSlots x
  | .makeMap => []
  | .mapGet _ _ _ x y | .mapDel _ x y => opdSlots x ++ opdSlots y
  | .mapPut _ x y z => opdSlots x ++ opdSlots y ++ opdSlots z
  | .sSlice x lo hi => opdSlots x ++ opdsSlots lo.toList ++ opdsSlots hi.toList
  | .build _ ps | .buildSlice _ ps _ _ => partSlots ps
  | .store x _ y | .bin _ x y | .eqCells _ _ x y | .idxSl x y _ | .idxArr x y _ _ | .index1 x y _ | .indexN x y _ _ | .append x y _ _ | .min2 x y | .max2 x y => opdSlots x ++ opdSlots y
  | .mkfn _ a b => opdsSlots a ++ opdsSlots b
  | .slice x lo hi _ => opdSlots x ++ opdsSlots lo.toList ++ opdsSlots hi.toList
  | .slice3 x lo hi mx _ => opdSlots x ++ opdsSlots lo.toList ++ opdSlots hi ++ opdSlots mx
  | .callF _ as => opdsSlots as
  | .callV f as => opdSlots f ++ opdsSlots as
def AO.slots (o : AO) : List Nat := o.op.slots ++ (match o.guard with | some (g, _) => [g] | none => [])
def AOp.isCall : AOp → Bool
  | .callF _ _ | .callV _ _ => true
  | _ => false
def cguard (ops : Array Oper) (o : Oper) : Option (Option (Nat × Bool)) :=
  match o.guard with
  | none => some none
  | some (j, want) => match ((ops[j]?).bind (·.dst)) with
    | some d => some (some (d, want))
    | none => none
def cCall (P : Program) (o : Oper) : Option AOp :=
  match o.op with
  | .call ⟨.value (.func f), args, _⟩ => if guardFun P f = true then (copds args.toList).map (.callF f) else none
  | .call ⟨.value (.tmp i), args, _⟩ => (copds args.toList).map (.callV (.t i))
  | _ => none
def cOp (P : Program) (o : Oper) : Option AOp :=
  match cCall P o with
  | some op => some op
  | none => match cop P o with
    | some op => if op.isCall = true then none else some op
    | none => some .bad
def dstOk (sz : Nat) : Option Nat → Bool
  | some d => decide (d < sz)
  | none => true
def cAO (P : Program) (sz : Nat) (ops : Array Oper) (o : Oper) : Option AO :=
  match cOp P o, cguard ops o with
  | some op, some g => if dstOk sz o.dst = true then some ⟨o.dst, op, g⟩ else none
  | _, _ => none
def cAOs (P : Program) (sz : Nat) (ops : Array Oper) : List Oper → Option (List AO)
  | [] => some []
  | o :: os => match cAO P sz ops o, cAOs P sz ops os with
    | some a, some as => some (a :: as)
    | _, _ => none
def pr (ps : List (List Nat)) (i : Nat) : List Nat := ps.getD i []
def AC.erase : AC → AC
  | .ops l _ => .ops l none
  | .draw l ps _ => .draw l ps none
  | .seq a b => .seq a.erase b.erase
  | .cond c a b => .cond c a.erase b.erase
  | .block id a => .block id a.erase
  | .loop a => .loop a.erase
  | .scope a => .scope a.erase
  | .rangeFunc f ps a b => .rangeFunc f ps a.erase b.erase
  | c => c
def predsOf (ops : Array Oper) : List (List Nat) :=
  ops.toList.foldl (fun acc o =>
    let d := (o.after.toList.filter (Region.binds .any ·)).map (·.on)
    acc ++ [(d ++ d.flatMap fun k => acc.getD k []).eraseDups]) []
def preOK (ops : Array Oper) (ps : List (List Nat)) : Bool :=
  (List.range ops.size).all fun i => match ops[i]? with
    | some o => (pr ps i).all fun k => decide (k < i) && ((o.after.toList.any fun e => Region.binds .any e && decide (e.on = k)) || (o.after.toList.any fun e => Region.binds .any e && decide (k ∈ pr ps e.on)))
    | none => true
def pairOK (ps : List (List Nat)) (i j : Nat) (oi oj : AO) : Bool :=
  (decide (i = j) || (match oi.dst with | some d => !decide (oj.dst = some d) | none => true)) &&
  (match oj.dst with | some d => !decide (d ∈ oi.slots) || (decide (j ∈ pr ps i) || decide (i ∈ pr ps j)) | none => true) &&
  (!(decide (i < j) && (decide (2 ≤ oi.op.cls) && decide (oj.op.cls = 3))) || decide (i ∈ pr ps j))
def pairsOK (al : List AO) (ps : List (List Nat)) : Bool :=
  (List.range al.length).all fun i => (List.range al.length).all fun j => match al[i]?, al[j]? with
    | some oi, some oj => pairOK ps i j oi oj
    | _, _ => true
def ordOK (m : Region.Mode) (ops : Array Oper) : List Nat → List Nat → Bool
  | [], seen => (List.range ops.size).all fun i => seen.contains i
  | i :: r, seen => (match ops[i]? with
    | some o => o.after.toList.all fun e => !Region.binds m e || seen.contains e.on
    | none => false) && ordOK m ops r (i :: seen)
def drawOrders (ops : Array Oper) : Bool :=
  ordOK .any ops (List.range ops.size) [] && (!Region.departs ops || (ordOK .text ops (List.range ops.size) [] && ordOK .gc ops (Region.linearise .gc ops 0) []))
def comp (P : Program) (sz : Nat) : Code → Option AC
  | .skip => some .skip
  | .label _ => some .skip
  | .region _ ops false => (cAOs P sz ops ops.toList).map (.ops · none)
  | .region _ ops true => match cAOs P sz ops ops.toList with
    | some al => if drawOrders ops = true ∧ preOK ops (predsOf ops) = true ∧ pairsOK al (predsOf ops) = true then some (.draw al (predsOf ops) none) else none
    | none => none
  | .seq a b => match comp P sz a, comp P sz b with
    | some x, some y => some (.seq x y)
    | _, _ => none
  | .cond c a b => match copd c, comp P sz a, comp P sz b with
    | some c, some x, some y => some (.cond c x y)
    | _, _, _ => none
  | .block id a => (comp P sz a).map (.block id)
  | .loop a => (comp P sz a).map .loop
  | .scope a => (comp P sz a).map .scope
  | .exit id => some (.exit id)
  | .ret => some .ret
  | .rangeFunc f ps a b => match copd f, comp P sz a, comp P sz b with
    | some f, some x, some y => if (ps.toList.all fun p => decide (p < sz)) = true then some (.rangeFunc f ps.toList x y) else none
    | _, _, _ => none
  | _ => some .bad
end Go.Abs
