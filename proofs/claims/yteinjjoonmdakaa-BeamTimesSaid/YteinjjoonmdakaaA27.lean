/- The abstract machine, run for the kernel: memory as a tree, operations. -/
import Derived.Test.YteinjjoonmdakaaA26
set_option linter.unusedSimpArgs false
set_option linter.unusedVariables false
namespace Go.Abs
open Go.RowKit
universe u
noncomputable def getT (t : Tr) : Nat → AObj :=
  Tr.rec (motive := fun _ => Nat → AObj) (fun _ => .dead)
    (fun _ o _ il ir n => Nat.casesOn (motive := fun _ => AObj) n o fun m => Bool.casesOn (motive := fun _ => AObj) (Nat.beq (Nat.mod m 2) 0) (ir (Nat.div m 2)) (il (Nat.div m 2))) t
section

noncomputable def setT (t : Tr) : Nat → AObj → (Tr → Option RT) → Option RT :=
  Tr.rec (motive := fun _ => Nat → AObj → (Tr → Option RT) → Option RT) (fun n x k => Nat.casesOn (motive := fun _ => Option RT) n (k (.bin .nil x .nil)) fun _ => none)
    (fun l o r il ir n x k => Nat.casesOn (motive := fun _ => Option RT) n (k (.bin l x r)) fun m =>
      Bool.casesOn (motive := fun _ => Option RT) (Nat.beq (Nat.mod m 2) 0) (ir (Nat.div m 2) x fun r' => k (.bin l o r')) (il (Nat.div m 2) x fun l' => k (.bin l' o r))) t
noncomputable def ab (tr : Tr) (s : Nat) : Heap := (List.range s).map (getT tr)
noncomputable def obT (tr : Tr) (s i : Nat) : Option AObj := yes (Nat.ble (Nat.succ i) s) (some (getT tr i)) none
noncomputable def rdT (tr : Tr) (s id off n : Nat) (k : List AV → Option RT) : Option RT := match obT tr s id with
  | some (.cells vs _) => yes (Nat.ble (off + n) (lenR vs)) (takeR (dropR vs off) n k) none
  | _ => none
noncomputable def rd1T (tr : Tr) (s id off : Nat) (k : AV → Option RT) : Option RT := match obT tr s id with
  | some (.cells vs _) => match getR vs off with
    | some v => wV v k
    | none => none
  | _ => none
noncomputable def wrT (tr : Tr) (s id off : Nat) (vs : List AV) (k : Tr → Option RT) : Option RT := match obT tr s id with
  | some (.cells cs true) => yes (Nat.ble (off + lenR vs) (lenR cs)) (spliceR cs off vs fun c => setT tr id (.cells c true) k) none
  | _ => none
noncomputable def newT (cs : List AV) (tr : Tr) (s : Nat) (K : Tr → Nat → Option RT) : Option RT := setT tr s (.cells cs true) fun tr' => fN (Nat.succ s) fun s' => K tr' s'
noncomputable def mapT (tr : Tr) (s : Nat) (v : AV) (k : List (AV × AV) → Option RT) : Option RT := match v with
  | .nilmap => k []
  | .map id => match obT tr s id with
    | some (.other (.map es _ _)) => k es
    | _ => none
  | _ => none
noncomputable def ownT (tr : Tr) (s : Nat) (v : AV) (k : Nat → List (AV × AV) → List Nat → Nat → Option RT) : Option RT := match v with
  | .map id => match obT tr s id with
    | some (.other (.map es bs c)) => k id es bs c
    | _ => none
  | _ => none
abbrev Kt := AV → Tr → Nat → Option RT
noncomputable def putT (tr : Tr) (s id : Nat) (es : List (AV × AV)) (bs : List Nat) (c : Nat) (K : Kt) : Option RT := setT tr id (.other (.map es bs c)) fun tr' => K (.tuple []) tr' s

noncomputable def slT (tr : Tr) (s sz : Nat) (v : AV) (k : Nat → List AV → Option RT) : Option RT := match v with
  | .nilslice => k 0 []
  | .slice id off len sz' _ => yes (Nat.beq sz' sz) (rdT tr s id off (Nat.mul len sz) fun vs => k len vs) none
  | _ => none
noncomputable def slowT (o : AOp) (t : List (Nat × AV)) (tr : Tr) (s : Nat) (K : Kt) : Option RT := yes (Nat.beq o.cls 0) (match o.fx (AOpd.ev t) [] with
  | some (v, _) => fV v fun v => K v tr s
  | none => none) none

noncomputable def fxT (o : AOp) (t : List (Nat × AV)) (tr : Tr) (s : Nat) (K : Kt) : Option RT :=
  match o with
  | .mov x => wV (evR t x) fun v => K v tr s
  | .pick c a b => match evR t c with
    | .bool true => wV (evR t a) fun v => K v tr s
    | .bool false => wV (evR t b) fun v => K v tr s
    | _ => none
  | .alloc zs => newT zs tr s fun tr' s' => K (.ptr s 0) tr' s'
  | .box x => cellsR (evR t x) fun cs => newT cs tr s fun tr' s' => K (.ptr s 0) tr' s'
  | .build zs parts => fillR t parts zs fun cs => K (.agg cs) tr s
  | .buildSlice zs parts ln sz => fillR t parts zs fun cs => newT cs tr s fun tr' s' => K (.slice s 0 ln sz true) tr' s'
  | .load1 a => match evR t a with
    | .ptr id off => rd1T tr s id off fun v => K v tr s
    | _ => none
  | .loadN a n => match evR t a with
    | .ptr id off => rdT tr s id off n fun vs => K (.agg vs) tr s
    | _ => none
  | .store a n x => match evR t a with
    | .ptr id off => cellsR (evR t x) fun vs => yes (Nat.beq (lenR vs) n) (yes (allR scal vs) (wrT tr s id off vs fun tr' => K (.tuple []) tr' s) none) none
    | _ => none
  | .nilCheck x => match evR t x with
    | .ptr id off => K (.ptr id off) tr s
    | .fn (.func f) a b => K (.fn (.func f) a b) tr s
    | _ => none
  | .bin op x y => match op with
    | .quo => slowT (.bin .quo x y) t tr s K
    | .rem => slowT (.bin .rem x y) t tr s K
    | op => binR op (evR t x) (evR t y) fun v => K v tr s
  | .not x => match evR t x with
    | .bool b => fB (!b) fun b => K (.bool b) tr s
    | _ => none
  | .mkfn f first caps => evsR t first fun a => evsR t caps fun b => K (.fn f a b) tr s
  | .fieldAddr x off => match evR t x with
    | .ptr id o => fN (o + off) fun o => K (.ptr id o) tr s
    | _ => none
  | .field1 x off => match evR t x with
    | .agg cs => match getR cs off with
      | some v => wV v fun v => K v tr s
      | none => none
    | _ => none
  | .fieldN x off n => match evR t x with
    | .agg cs => takeR (dropR cs off) n fun cs => K (.agg cs) tr s
    | _ => none
  | .idxSl x i sz => match evR t x, evR t i with
    | .slice id off ln sz' _, .int _ n => yes (Nat.beq sz' sz) (yes (ile 0 n) (yes (!ile ln n) (fN (off + n.toNat * sz) fun o => K (.ptr id o) tr s) none) none) none
    | _, _ => none
  | .idxArr x i ln sz => match evR t x, evR t i with
    | .ptr id off, .int _ n => yes (ile 0 n) (yes (!ile ln n) (fN (off + n.toNat * sz) fun o => K (.ptr id o) tr s) none) none
    | _, _ => none
  | .extract x i => match evR t x with
    | .tuple vs => match getR vs i with
      | some v => wV v fun v => K v tr s
      | none => none
    | _ => none
  | .len x => match evR t x with
    | .slice _ _ ln _ _ => K (.int .i64 (.ofNat ln)) tr s
    | .nilslice => K (.int .i64 (.ofNat 0)) tr s
    | _ => none
  | .append x y sz bytes => slT tr s sz (evR t x) fun n old => slT tr s sz (evR t y) fun m new => yes (allR scal new) (yes (Nat.ble (Nat.mul (n + m) bytes) 140737488355328)
      (match evR t x with
      | .nilslice => fN m fun m => newT new tr s fun tr' s' => K (.slice s 0 m sz false) tr' s'
      | .slice id off _ _ _ => match obT tr s id with
        | some (.cells _ true) => yes (Nat.beq off 0) (fN (n + m) fun l => appR old new fun cs => setT tr id .dead fun tr => newT cs tr s fun tr' s' => K (.slice s 0 l sz false) tr' s') none
        | _ => none
      | _ => none) none) none
  | .makeSl zs sz bytes ln cp => match evR t ln, evR t cp with
    | .int _ n, .int _ c => yes (ile 0 n) (yes (ile n c) (yes (ile ((bytes : Int) * c) 281474976710656) (yes (ile c 9223372036854775807)
      (repR c.toNat zs fun cs => newT cs tr s fun tr' s' => fN n.toNat fun l => fB (ieq n c) fun e => K (.slice s 0 l sz e) tr' s') none) none) none) none
    | _, _ => none
  | .appZ zs sz bytes x n => match evR t x, evR t n with
    | .nilslice, .int _ m => yes (ile 1 m) (yes (Nat.ble (Nat.mul m.toNat bytes) 140737488355328)
      (repR m.toNat zs fun cs => newT cs tr s fun tr' s' => fN m.toNat fun l => K (.slice s 0 l sz false) tr' s') none) none
    | _, _ => none
  | .makeMap => setT tr s (.other (.map [] [] 0)) fun tr' => fN (Nat.succ s) fun s' => K (.map s) tr' s'
  | .mapGet ok z k m i => wV (evR t i) fun x => keyR k x x fun _ => mapT tr s (evR t m) fun es => findR k x es 0 fun r => match r with
    | some n => opt (getR es n) fun p => wV p.2 fun v => K (if ok = true then .tuple [v, .bool true] else v) tr s
    | none => K (if ok = true then .tuple [z, .bool false] else z) tr s
  | .mapPut k m i x => wV (evR t i) fun a => keyR k a a fun _ => wV (evR t x) fun b => ownT tr s (evR t m) fun id es bs c => findR k a es 0 fun r => match r with
    | some n => setR es n (a, b) fun es => putT tr s id es bs c K
    | none => appR es [(a, b)] fun es => appR bs [c] fun bs => fN (Nat.succ c) fun c => putT tr s id es bs c K
  | .mapDel k m i => wV (evR t i) fun a => keyR k a a fun _ => ownT tr s (evR t m) fun id es bs c => findR k a es 0 fun r => match r with
    | some n => eraseR es n fun es => eraseR bs n fun bs => putT tr s id es bs c K
    | none => K (.tuple []) tr s
  | .mapClear m => ownT tr s (evR t m) fun id _ _ c => putT tr s id [] [] c K
  | .rangeM m => match evR t m with
    | .nilmap => setT tr s (.other (.iter none 0 [] 0)) fun tr' => fN (Nat.succ s) fun s' => K (.ptr s 0) tr' s'
    | .map id => match obT tr s id with
      | some (.other (.map _ _ c)) => setT tr s (.other (.iter (some id) c [] c)) fun tr' => fN (Nat.succ s) fun s' => K (.ptr s 0) tr' s'
      | _ => none
    | _ => none
  | .nextM i => match evR t i with
    | .ptr id 0 => match obT tr s id with
      | some (.other (.iter none _ _ _)) => K (.tuple [.bool false]) tr s
      | some (.other (.iter (some m) since seen last)) => match obT tr s m with
        | some (.other (.map es bs c)) => yes (seen.isEmpty || es.isEmpty || !(bs.all fun b => decide (last ≤ b))) (match leftA es bs seen with
          | [] => K (.tuple [.bool false]) tr s
          | [(p, b)] => yes (Nat.ble (Nat.succ b) since) (appR seen [b] fun seen' => setT tr id (.other (.iter (some m) since seen' c)) fun tr' => K (.tuple [.bool true, p.1, p.2]) tr' s) none
          | _ => none) none
        | _ => none
      | _ => none
    | _ => none
  | .entryM i => match evR t i with
    | .ptr id 0 => match obT tr s id with
      | some (.other (.iter (some m) _ seen last)) => match seen.getLast? with
        | some b => match obT tr s m with
          | some (.other (.map es bs c)) => yes (Nat.beq c last) (match entryA es bs b with
            | some p => K (.tuple [p.1, p.2]) tr s
            | none => none) none
          | _ => none
        | none => none
      | _ => none
    | _ => none
  | .lenM m => mapT tr s (evR t m) fun es => fN (lenR es) fun n => K (.int .i64 (.ofNat n)) tr s
  | o => slowT o t tr s K
end
end Go.Abs
