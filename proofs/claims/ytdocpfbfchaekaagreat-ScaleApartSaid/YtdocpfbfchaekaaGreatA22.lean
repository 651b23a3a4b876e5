/- The abstract machine, run: what an operation leaves, reckoned. -/
import Derived.Test.YtdocpfbfchaekaaGreatA21
namespace Go.Abs
open Go.RowKit
/-! ### Equality of values,reckoned -/
def fnEq:Fn→Fn→Bool
  | .func a,.func b=>Nat.beq a b
  | _,_=>false
theorem fnEq_eq {a b:Fn} (h:fnEq a b=true):a=b:=by
  cases a <;> cases b <;> simp only [fnEq,Bool.false_eq_true] at h
  rw [Nat.eq_of_beq_eq_true h]
mutual
def AV.beq:AV→AV→Bool
  | .bool a,.bool b=>a == b
  | .int k a,.int k' b=>decide (k=k') && decide (a=b)
  | .str a,.str b=>decide (a=b)
  | .ptr i o,.ptr j p=>Nat.beq i j && Nat.beq o p
  | .nil,.nil=>true
  | .slice i o l s x,.slice j p m t y=>Nat.beq i j && Nat.beq o p && Nat.beq l m && Nat.beq s t && (x == y)
  | .nilslice,.nilslice=>true
  | .map i,.map j=>Nat.beq i j
  | .nilmap,.nilmap=>true
  | .fn f a b,.fn g c d=>fnEq f g && beqL a c && beqL b d
  | .nilfn,.nilfn=>true
  | .yield i,.yield j=>Nat.beq i j
  | .agg a,.agg b=>beqL a b
  | .tuple a,.tuple b=>beqL a b
  | _,_=>false
def beqL:List AV→List AV→Bool
  | [],[]=>true
  | a :: as,b :: bs=>a.beq b && beqL as bs
  | _,_=>false
end
mutual
theorem beq_eq:∀ (a b:AV),a.beq b=true→a=b
  | .bool a,b,h=>by cases b <;> simp_all [AV.beq]
  | .int k a,b,h=>by cases b <;> simp_all [AV.beq]
  | .str a,b,h=>by cases b <;> simp_all [AV.beq]
  | .ptr i o,b,h=>by cases b <;> simp_all [AV.beq]
  | .nil,b,h=>by cases b <;> simp_all [AV.beq]
  | .slice i o l s x,b,h=>by cases b <;> simp_all [AV.beq]
  | .nilslice,b,h=>by cases b <;> simp_all [AV.beq]
  | .map i,b,h=>by cases b <;> simp_all [AV.beq]
  | .nilmap,b,h=>by cases b <;> simp_all [AV.beq]
  | .fn f x y,b,h=>by
    cases b <;> simp only [AV.beq,Bool.false_eq_true,Bool.and_eq_true] at h
    rw [fnEq_eq h.1.1,beqL_eq _ _ h.1.2,beqL_eq _ _ h.2]
  | .nilfn,b,h=>by cases b <;> simp_all [AV.beq]
  | .yield i,b,h=>by cases b <;> simp_all [AV.beq]
  | .iface t v,b,h=>by cases b <;> simp [AV.beq] at h
  | .niliface,b,h=>by cases b <;> simp [AV.beq] at h
  | .junk,b,h=>by cases b <;> simp [AV.beq] at h
  | .agg x,b,h=>by
    cases b <;> simp only [AV.beq,Bool.false_eq_true] at h
    rw [beqL_eq _ _ h]
  | .tuple x,b,h=>by
    cases b <;> simp only [AV.beq,Bool.false_eq_true] at h
    rw [beqL_eq _ _ h]
theorem beqL_eq:∀ (a b:List AV),beqL a b=true→a=b
  | [],b,h=>by cases b <;> simp_all [beqL]
  | a :: as,b,h=>by
    cases b with
    | nil=>simp [beqL] at h
    | cons b bs =>
      simp only [beqL,Bool.and_eq_true] at h
      rw [beq_eq a b h.1,beqL_eq as bs h.2]
end
/-! ### What an operation leaves -/
def AOp.fx (o:AOp) (ev:AOpd→AV) (h:Heap):Option (AV × Heap) :=
  match o with
  | .mov x=>some (ev x,h)
  | .pick c a b=>match ev c with
    | .bool true=>some (ev a,h)
    | .bool false=>some (ev b,h)
    | _=>none
  | .alloc zs=>some (.ptr h.length 0,h++[.cells zs true])
  | .box x=>match cellsOf (ev x) with
    | some cs=>some (.ptr h.length 0,h++[.cells cs true])
    | none=>none
  | .build zs parts=>match fillA ev zs parts with
    | some cs=>some (.agg cs,h)
    | none=>none
  | .buildSlice zs parts ln sz=>match fillA ev zs parts with
    | some cs=>some (.slice h.length 0 ln sz true,h++[.cells cs true])
    | none=>none
  | .load1 a=>match ev a with
    | .ptr id off=>match rd h id off 1 with
      | some [v]=>some (v,h)
      | _=>none
    | _=>none
  | .loadN a n=>match ev a with
    | .ptr id off=>match rd h id off n with
      | some vs=>some (.agg vs,h)
      | none=>none
    | _=>none
  | .store a n x=>match ev a with
    | .ptr id off=>match cellsOf (ev x) with
      | some vs=>if vs.length=n∧vs.all scal=true then match wr h id off vs with
        | some h'=>some (.tuple [],h')
        | none=>none else none
      | none=>none
    | _=>none
  | .nilCheck x=>match ev x with
    | .ptr id off=>some (.ptr id off,h)
    | .fn (.func f) a b=>some (.fn (.func f) a b,h)
    | _=>none
  | .bin op x y=>match op with
    | .quo=>match ev x,ev y with
      | .int k a,.int k' b=>if k=k'∧b≠0 then some (.int k (k.wrap (a.tdiv b)),h) else none
      | _,_=>none
    | .rem=>match ev x,ev y with
      | .int k a,.int k' b=>if k=k'∧b≠0 then some (.int k (a.tmod b),h) else none
      | _,_=>none
    | _=>match binA op (ev x) (ev y) with
      | some v=>some (v,h)
      | none=>none
  | .eqCells ng offs x y=>match ev x,ev y with
    | .agg a,.agg b=>match eqAt a b offs with
      | some t=>some (.bool (if ng=true then !t else t),h)
      | none=>none
    | _,_=>none
  | .neg x=>match ev x with
    | .int k n=>some (.int k (k.wrap (0-n)),h)
    | _=>none
  | .not x=>match ev x with
    | .bool b=>some (.bool !b,h)
    | _=>none
  | .conv k x=>match ev x with
    | .int _ n=>some (.int k (k.wrap n),h)
    | _=>none
  | .mkfn f first caps=>some (.fn f (first.map ev) (caps.map ev),h)
  | .fieldAddr x off=>match ev x with
    | .ptr id o=>some (.ptr id (o+off),h)
    | _=>none
  | .field1 x off=>match ev x with
    | .agg cs=>match cs[off]? with
      | some v=>some (v,h)
      | none=>none
    | _=>none
  | .fieldN x off n=>match ev x with
    | .agg cs=>some (.agg ((cs.drop off).take n),h)
    | _=>none
  | .idxSl x i sz=>match ev x,ev i with
    | .slice id off ln sz' _,.int _ n=>if sz'=sz∧0≤n∧n<ln then some (.ptr id (off+n.toNat * sz),h) else none
    | _,_=>none
  | .idxArr x i ln sz=>match ev x,ev i with
    | .ptr id off,.int _ n=>if 0≤n∧n<ln then some (.ptr id (off+n.toNat * sz),h) else none
    | _,_=>none
  | .index1 x i ln=>match ev x,ev i with
    | .agg cs,.int _ n=>if 0≤n∧n<ln then match cs[n.toNat]? with
      | some v=>some (v,h)
      | none=>none else none
    | _,_=>none
  | .indexN x i ln sz=>match ev x,ev i with
    | .agg cs,.int _ n=>if 0≤n∧n<ln then some (.agg ((cs.drop (n.toNat * sz)).take sz),h) else none
    | _,_=>none
  | .slice x lo hi sz=>match ev x,(lo.map ev).getD (.int .i64 0) with
    | .slice id off ln sz' ex,.int _ l=>match (hi.map ev).getD (.int .i64 ln) with
      | .int _ m=>if sz'=sz∧0≤l∧l≤m∧m≤ln then some (.slice id (off+l.toNat * sz) (m.toNat-l.toNat) sz (ex && decide (m=ln)),h) else none
      | _=>none
    | .nilslice,.int _ l=>match (hi.map ev).getD (.int .i64 0) with
      | .int _ m=>if l=0∧m=0 then some (.nilslice,h) else none
      | _=>none
    | _,_=>none
  | .slice3 x lo hi mx sz=>match ev x,(lo.map ev).getD (.int .i64 0),ev hi,ev mx with
    | .slice id off ln sz' _,.int _ l,.int _ m,.int _ c=>if sz'=sz∧0≤l∧l≤m∧m≤c∧c≤ln then some (.slice id (off+l.toNat * sz) (m.toNat-l.toNat) sz (decide (m=c)),h) else none
    | _,_,_,_=>none
  | .extract x i=>match ev x with
    | .tuple vs=>match vs[i]? with
      | some v=>some (v,h)
      | none=>none
    | _=>none
  | .len x=>match ev x with
    | .slice _ _ ln _ _=>some (.int .i64 ln,h)
    | .nilslice=>some (.int .i64 0,h)
    | _=>none
  | .lenS x=>match ev x with
    | .str s=>some (.int .i64 s.size,h)
    | _=>none
  | .append x y sz bytes=>match sliceCells h sz (ev x),sliceCells h sz (ev y) with
    | some (n,old),some (m,new)=>if new.all scal=true∧(n+m) * bytes≤140737488355328 then
      match ev x with
      | .nilslice=>some (.slice h.length 0 m sz false,h++[.cells new true])
      | .slice id off _ _ ex=>match h[id]? with
        | some (.cells _ true)=>if off=0 then some (.slice h.length 0 (n+m) sz false,h.set id .dead++[.cells (old++new) true]) else none
        | some (.cells _ false)=>if ex=true then some (.slice h.length 0 (n+m) sz false,h++[.cells (old++new) (decide (0<m))]) else none
        | _=>none
      | _=>none else none
    | _,_=>none
  | .min2 x y=>match ev x,ev y with
    | .int k a,.int _ b=>some (.int k (if b<a then b else a),h)
    | _,_=>none
  | .max2 x y=>match ev x,ev y with
    | .int k a,.int _ b=>some (.int k (if a<b then b else a),h)
    | _,_=>none
  | .eqv k ng x y=>match eqvA k (ev x) (ev y) with
    | some t=>some (.bool (if ng=true then !t else t),h)
    | none=>none
  | .shift l x y=>match shiftA l (ev x) (ev y) with
    | some v=>some (v,h)
    | none=>none
  | .capS x=>match ev x with
    | .nilslice=>some (.int .i64 0,h)
    | .slice _ _ ln _ true=>some (.int .i64 ln,h)
    | _=>none
  | .sIdx x i=>match ev x,ev i with
    | .str s,.int _ n=>if 0≤n then match s[n.toNat]? with
      | some b=>some (.int .u8 b.toNat,h)
      | none=>none else none
    | _,_=>none
  | .sSlice x lo hi=>match ev x,(lo.map ev).getD (.int .i64 0) with
    | .str s,.int _ l=>match (hi.map ev).getD (.int .i64 s.size) with
      | .int _ m=>if 0≤l∧l≤m∧m≤s.size then some (.str (s.extract l.toNat m.toNat),h) else none
      | _=>none
    | _,_=>none
  | .makeSl zs sz bytes ln cp=>match ev ln,ev cp with
    | .int _ n,.int _ c=>if 0≤n∧n≤c∧(bytes:Int) * c≤281474976710656∧c≤9223372036854775807 then some (.slice h.length 0 n.toNat sz (decide (n=c)),h++[.cells (List.replicate c.toNat zs).flatten true]) else none
    | _,_=>none
  | .appZ zs sz bytes x n=>match ev x,ev n with
    | .nilslice,.int _ m=>if 0<m∧m.toNat * bytes≤140737488355328 then some (.slice h.length 0 m.toNat sz false,h++[.cells (List.replicate m.toNat zs).flatten true]) else none
    | _,_=>none
  | .makeMap=>some (.map h.length,h++[.other (.map [] [] 0)])
  | .mapGet ok z k m i=>if (keyEq k (ev i) (ev i)).isSome=true then match mapAt h (ev m) with
    | some es=>match findA k (ev i) es with
      | some (some n)=>match es[n]? with
        | some p=>some (if ok=true then .tuple [p.2,.bool true] else p.2,h)
        | none=>none
      | some none=>some (if ok=true then .tuple [z,.bool false] else z,h)
      | none=>none
    | none=>none else none
  | .mapPut k m i x=>if (keyEq k (ev i) (ev i)).isSome=true then match ev m with
    | .map id=>match h[id]? with
      | some (.other (.map es bs c))=>match findA k (ev i) es with
        | some (some n)=>some (.tuple [],h.set id (.other (.map (es.set n (ev i,ev x)) bs c)))
        | some none=>some (.tuple [],h.set id (.other (.map (es++[(ev i,ev x)]) (bs++[c]) (c+1))))
        | none=>none
      | _=>none
    | _=>none else none
  | .mapDel k m i=>if (keyEq k (ev i) (ev i)).isSome=true then match ev m with
    | .map id=>match h[id]? with
      | some (.other (.map es bs c))=>match findA k (ev i) es with
        | some (some n)=>some (.tuple [],h.set id (.other (.map (es.eraseIdx n) (bs.eraseIdx n) c)))
        | some none=>some (.tuple [],h)
        | none=>none
      | _=>none
    | _=>none else none
  | .mapClear m=>match ev m with
    | .map id=>match h[id]? with
      | some (.other (.map _ _ c))=>some (.tuple [],h.set id (.other (.map [] [] c)))
      | _=>none
    | _=>none
  | .lenM m=>match mapAt h (ev m) with
    | some es=>some (.int .i64 es.length,h)
    | none=>none
  | .rangeM m=>match ev m with
    | .nilmap=>some (.ptr h.length 0,h++[.other (.iter none 0 [] 0)])
    | .map id=>match h[id]? with
      | some (.other (.map _ _ c))=>some (.ptr h.length 0,h++[.other (.iter (some id) c [] c)])
      | _=>none
    | _=>none
  | .nextM i=>match ev i with
    | .ptr id 0=>match h[id]? with
      | some (.other (.iter none _ _ _))=>some (.tuple [.bool false],h)
      | some (.other (.iter (some m) since seen last))=>match h[m]? with
        | some (.other (.map es bs c))=>if (seen.isEmpty || es.isEmpty || !(bs.all fun b=>decide (last≤b)))=true then match leftA es bs seen with
          | []=>some (.tuple [.bool false],h)
          | [(p,b)]=>if b<since then some (.tuple [.bool true,p.1,p.2],h.set id (.other (.iter (some m) since (seen++[b]) c))) else none
          | _=>none else none
        | _=>none
      | _=>none
    | _=>none
  | .entryM i=>match ev i with
    | .ptr id 0=>match h[id]? with
      | some (.other (.iter (some m) _ seen last))=>match seen.getLast? with
        | some b=>match h[m]? with
          | some (.other (.map es bs c))=>if c=last then match entryA es bs b with
            | some p=>some (.tuple [p.1,p.2],h)
            | none=>none else none
          | _=>none
        | none=>none
      | _=>none
    | _=>none
  | .bad|.callF _ _|.callV _ _=>none
theorem fx_sem {o:AOp} {ev:AOpd→AV} {h h':Heap} {v:AV} (hf:o.fx ev h=some (v,h')) {K:AV→Heap→Prop} (hK:K v h'):o.sem ev h K:=by
  cases o <;> simp only [AOp.fx,AOp.sem] at hf ⊢
  case bin op x y =>
    cases op <;> simp only [divA] at hf ⊢
    all_goals ((repeat' split at hf) <;> first|(cases hf;done)|(simp only [Option.some.injEq,Prod.mk.injEq] at hf;obtain⟨rfl,rfl⟩:=hf;simp_all))
  case min2 x y=>split at hf <;> first|(cases hf;done)|(simp only [Option.some.injEq,Prod.mk.injEq] at hf;obtain⟨rfl,rfl⟩:=hf;rename_i h1 h2;rw [h1,h2];exact hK)
  case max2 x y=>split at hf <;> first|(cases hf;done)|(simp only [Option.some.injEq,Prod.mk.injEq] at hf;obtain⟨rfl,rfl⟩:=hf;rename_i h1 h2;rw [h1,h2];exact hK)
  all_goals ((repeat' split at hf) <;> first|(cases hf;done)|(simp only [Option.some.injEq,Prod.mk.injEq] at hf;obtain⟨rfl,rfl⟩:=hf;simp_all))
theorem fx_pure {o:AOp} {ev:AOpd→AV} {h h0 h':Heap} {v:AV} (hc:o.cls=0) (hf:o.fx ev h0=some (v,h')):o.fx ev h=some (v,h):=by
  cases o <;> first
    | (simp [AOp.cls] at hc;done)
    | skip
  case bin op x y =>
    cases op <;> simp only [AOp.fx] at hf ⊢
    all_goals ((repeat' split at hf) <;> first|(cases hf;done)|(simp only [Option.some.injEq,Prod.mk.injEq] at hf;obtain⟨rfl,rfl⟩:=hf;simp_all))
  case min2 x y =>
    simp only [AOp.fx] at hf ⊢
    split at hf
    · rename_i h1 h2;simp only [Option.some.injEq,Prod.mk.injEq] at hf;obtain⟨rfl,rfl⟩:=hf;simp only [h1,h2]
    · cases hf
  case max2 x y =>
    simp only [AOp.fx] at hf ⊢
    split at hf
    · rename_i h1 h2;simp only [Option.some.injEq,Prod.mk.injEq] at hf;obtain⟨rfl,rfl⟩:=hf;simp only [h1,h2]
    · cases hf
  all_goals (simp only [AOp.fx] at hf ⊢ <;> (repeat' split at hf) <;> first|(cases hf;done)|(simp only [Option.some.injEq,Prod.mk.injEq] at hf;obtain⟨rfl,rfl⟩:=hf;simp_all))
end Go.Abs
