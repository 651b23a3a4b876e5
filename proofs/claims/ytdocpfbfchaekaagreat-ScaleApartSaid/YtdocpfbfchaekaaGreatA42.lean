/- The laws by which abstract code is reckoned. -/
import Derived.Test.YtdocpfbfchaekaaGreatA41
namespace Go.Abs
inductive Den where
  | ok (c:Prop) (v:AV) (h:Heap)
  | bad
def AOp.den (o:AOp) (ev:AOpd→AV) (h:Heap):Den :=
  match o with
  | .mov x=>.ok True (ev x) h
  | .pick c a b=>match ev c with
    | .bool t=>.ok True (if t=true then ev a else ev b) h
    | _=>.bad
  | .alloc zs=>.ok True (.ptr h.length 0) (h++[.cells zs true])
  | .box x=>match cellsOf (ev x) with
    | some cs=>.ok True (.ptr h.length 0) (h++[.cells cs true])
    | none=>.bad
  | .build zs parts=>match fillA ev zs parts with
    | some cs=>.ok True (.agg cs) h
    | none=>.bad
  | .buildSlice zs parts ln sz=>match fillA ev zs parts with
    | some cs=>.ok True (.slice h.length 0 ln sz true) (h++[.cells cs true])
    | none=>.bad
  | .load1 a=>match ev a with
    | .ptr id off=>match rd h id off 1 with
      | some [v]=>.ok True v h
      | _=>.bad
    | _=>.bad
  | .loadN a n=>match ev a with
    | .ptr id off=>match rd h id off n with
      | some vs=>.ok True (.agg vs) h
      | none=>.bad
    | _=>.bad
  | .store a n x=>match ev a with
    | .ptr id off=>match cellsOf (ev x) with
      | some vs=>match wr h id off vs with
        | some h'=>.ok (vs.length=n∧vs.all scal=true) (.tuple []) h'
        | none=>.bad
      | none=>.bad
    | _=>.bad
  | .nilCheck x=>match ev x with
    | .ptr id off=>.ok True (.ptr id off) h
    | .fn (.func f) a b=>.ok True (.fn (.func f) a b) h
    | _=>.bad
  | .bin op x y=>match op with
    | .quo=>match ev x,ev y with
      | .int k a,.int k' b=>.ok (k=k'∧b≠0) (.int k (k.wrap (a.tdiv b))) h
      | _,_=>.bad
    | .rem=>match ev x,ev y with
      | .int k a,.int k' b=>.ok (k=k'∧b≠0) (.int k (a.tmod b)) h
      | _,_=>.bad
    | _=>match binA op (ev x) (ev y) with
      | some v=>.ok True v h
      | none=>.bad
  | .eqCells ng offs x y=>match ev x,ev y with
    | .agg a,.agg b=>match eqAt a b offs with
      | some t=>.ok True (.bool (if ng=true then !t else t)) h
      | none=>.bad
    | _,_=>.bad
  | .neg x=>match ev x with
    | .int k n=>.ok True (.int k (k.wrap (0-n))) h
    | _=>.bad
  | .not x=>match ev x with
    | .bool b=>.ok True (.bool !b) h
    | _=>.bad
  | .conv k x=>match ev x with
    | .int _ n=>.ok True (.int k (k.wrap n)) h
    | _=>.bad
  | .mkfn f first caps=>.ok True (.fn f (first.map ev) (caps.map ev)) h
  | .fieldAddr x off=>match ev x with
    | .ptr id o=>.ok True (.ptr id (o+off)) h
    | _=>.bad
  | .field1 x off=>match ev x with
    | .agg cs=>match cs[off]? with
      | some v=>.ok True v h
      | none=>.bad
    | _=>.bad
  | .fieldN x off n=>match ev x with
    | .agg cs=>.ok True (.agg ((cs.drop off).take n)) h
    | _=>.bad
  | .idxSl x i sz=>match ev x,ev i with
    | .slice id off ln sz' _,.int _ n=>.ok (sz'=sz∧0≤n∧n<ln) (.ptr id (off+n.toNat * sz)) h
    | _,_=>.bad
  | .idxArr x i ln sz=>match ev x,ev i with
    | .ptr id off,.int _ n=>.ok (0≤n∧n<ln) (.ptr id (off+n.toNat * sz)) h
    | _,_=>.bad
  | .index1 x i ln=>match ev x,ev i with
    | .agg cs,.int _ n=>match cs[n.toNat]? with
      | some v=>.ok (0≤n∧n<ln) v h
      | none=>.bad
    | _,_=>.bad
  | .indexN x i ln sz=>match ev x,ev i with
    | .agg cs,.int _ n=>.ok (0≤n∧n<ln) (.agg ((cs.drop (n.toNat * sz)).take sz)) h
    | _,_=>.bad
  | .slice x lo hi sz=>match ev x,(lo.map ev).getD (.int .i64 0) with
    | .slice id off ln sz' ex,.int _ l =>
      match (hi.map ev).getD (.int .i64 ln) with
      | .int _ m=>.ok (sz'=sz∧0≤l∧l≤m∧m≤ln) (.slice id (off+l.toNat * sz) (m.toNat-l.toNat) sz (ex && decide (m=ln))) h
      | _=>.bad
    | .nilslice,.int _ l =>
      match (hi.map ev).getD (.int .i64 0) with
      | .int _ m=>.ok (l=0∧m=0) .nilslice h
      | _=>.bad
    | _,_=>.bad
  | .slice3 x lo hi mx sz=>match ev x,(lo.map ev).getD (.int .i64 0),ev hi,ev mx with
    | .slice id off ln sz' _,.int _ l,.int _ m,.int _ c=>.ok (sz'=sz∧0≤l∧l≤m∧m≤c∧c≤ln) (.slice id (off+l.toNat * sz) (m.toNat-l.toNat) sz (decide (m=c))) h
    | _,_,_,_=>.bad
  | .extract x i=>match ev x with
    | .tuple vs=>match vs[i]? with
      | some v=>.ok True v h
      | none=>.bad
    | _=>.bad
  | .len x=>match ev x with
    | .slice _ _ ln _ _=>.ok True (.int .i64 ln) h
    | .nilslice=>.ok True (.int .i64 0) h
    | _=>.bad
  | .lenS x=>match ev x with
    | .str s=>.ok True (.int .i64 s.size) h
    | _=>.bad
  | .append x y sz bytes=>match sliceCells h sz (ev x),sliceCells h sz (ev y) with
    | some (n,old),some (m,new) =>
      match ev x with
      | .nilslice=>.ok (new.all scal=true∧(n+m) * bytes≤140737488355328) (.slice h.length 0 m sz false) (h++[.cells new true])
      | .slice id off _ _ ex=>match h[id]? with
        | some (.cells _ true)=>.ok (new.all scal=true∧(n+m) * bytes≤140737488355328∧off=0) (.slice h.length 0 (n+m) sz false) (h.set id .dead++[.cells (old++new) true])
        | some (.cells _ false)=>.ok (new.all scal=true∧(n+m) * bytes≤140737488355328∧ex=true) (.slice h.length 0 (n+m) sz false) (h++[.cells (old++new) (decide (0<m))])
        | _=>.bad
      | _=>.bad
    | _,_=>.bad
  | .min2 x y=>match ev x,ev y with
    | .int k a,.int _ b=>.ok True (.int k (if b<a then b else a)) h
    | _,_=>.bad
  | .max2 x y=>match ev x,ev y with
    | .int k a,.int _ b=>.ok True (.int k (if a<b then b else a)) h
    | _,_=>.bad
  | .makeSl zs sz bytes ln cp=>match ev ln,ev cp with
    | .int _ n,.int _ c=>.ok (0≤n∧n≤c∧(bytes:Int) * c≤281474976710656∧c≤9223372036854775807) (.slice h.length 0 n.toNat sz (decide (n=c))) (h++[.cells (List.replicate c.toNat zs).flatten true])
    | _,_=>.bad
  | .appZ zs sz bytes x n=>match ev x,ev n with
    | .nilslice,.int _ m=>.ok (0<m∧m.toNat * bytes≤140737488355328) (.slice h.length 0 m.toNat sz false) (h++[.cells (List.replicate m.toNat zs).flatten true])
    | _,_=>.bad
  | .callF _ _|.callV _ _=>.bad
  | o=>match o.fx ev h with
    | some (v,h')=>.ok True v h'
    | none=>.bad
def Den.wp (d:Den) (K:AV→Heap→Prop):Prop :=
  match d with
  | .ok c v h=>c∧K v h
  | .bad=>False
theorem sem_den (op:AOp) (ev:AOpd→AV) (h:Heap) (K:AV→Heap→Prop) (hd:(op.den ev h).wp K):op.sem ev h K:=by
  cases op
  case bin op x y =>
    cases op
    case quo =>
      simp only [AOp.den,AOp.sem,divA] at hd ⊢
      split at hd
      · simp only [Den.wp] at hd
        obtain⟨⟨rfl,h2⟩,h3⟩:=hd
        simp [*]
      · cases hd
    case rem =>
      simp only [AOp.den,AOp.sem,divA] at hd ⊢
      split at hd
      · simp only [Den.wp] at hd
        obtain⟨⟨rfl,h2⟩,h3⟩:=hd
        simp [*]
      · cases hd
    all_goals (simp only [AOp.den,AOp.sem,divA] at hd ⊢;split at hd <;> simp_all [Den.wp])
  case append x y sz bytes =>
    simp only [AOp.den,AOp.sem] at hd ⊢
    split at hd
    · rename_i h1 h2
      rw [h1,h2]
      simp only
      split at hd
      · simp only [Den.wp] at hd;exact⟨hd.1.1,hd.1.2,by simp_all⟩
      · split at hd
        · simp only [Den.wp] at hd;exact⟨hd.1.1,hd.1.2.1,by simp_all⟩
        · simp only [Den.wp] at hd;exact⟨hd.1.1,hd.1.2.1,by simp_all⟩
        · cases hd
      · cases hd
    · cases hd
  case index1 x i n =>
    simp only [AOp.den,AOp.sem] at hd ⊢
    split at hd
    · split at hd
      · simp only [Den.wp] at hd
        simp_all
      · cases hd
    · cases hd
  case min2 x y =>
    simp only [AOp.den,AOp.sem] at hd ⊢
    split at hd
    · simp only [Den.wp,true_and] at hd;simp_all
    · cases hd
  case makeSl zs sz bytes ln cp =>
    simp only [AOp.den,AOp.sem] at hd ⊢
    split at hd
    · rename_i h1 h2
      rw [h1,h2]
      simp only [Den.wp] at hd ⊢
      exact⟨hd.1.1,hd.1.2.1,hd.1.2.2.1,hd.1.2.2.2,hd.2⟩
    · cases hd
  case appZ zs sz bytes x n =>
    simp only [AOp.den,AOp.sem] at hd ⊢
    split at hd
    · rename_i h1 h2
      rw [h1,h2]
      simp only [Den.wp] at hd ⊢
      exact⟨hd.1.1,hd.1.2,hd.2⟩
    · cases hd
  case max2 x y =>
    simp only [AOp.den,AOp.sem] at hd ⊢
    split at hd
    · simp only [Den.wp,true_and] at hd;simp_all
    · cases hd
  case pick x y z =>
    simp only [AOp.den,AOp.sem] at hd ⊢
    split at hd
    · simp only [Den.wp,true_and] at hd;simp_all
    · cases hd
  case bad=>simp only [AOp.den,AOp.fx] at hd;cases hd
  case callF=>cases hd
  case callV=>cases hd
  all_goals first
    | (simp only [AOp.den] at hd
       split at hd
       · rename_i v h' hf;exact fx_sem hf hd.2
       · cases hd
       done)
    | (simp only [AOp.den,AOp.sem] at hd ⊢ <;> (repeat' split at hd) <;> simp_all [Den.wp])
/-! ### Code,to be reckoned from left to right -/
def EOps (P:Program) (l:List AO) (K:St→Prop) (t:List (Nat × AV)) (h:Heap):Prop:=AOs.wp P l K ⟨t,h⟩
def ECode (P:Program) (H:Heap) (c:AC) (Q:Exit→St→Prop) (t:List (Nat × AV)) (h:Heap):Prop:=c.wp P H Q ⟨t,h⟩
def EQ (Q:Exit→St→Prop) (e:Exit) (t:List (Nat × AV)) (h:Heap):Prop:=Q e ⟨t,h⟩
def ENext (Q:Exit→St→Prop) (live:List Nat) (s:St):Prop:=Q .normal (s.prune (some live))
def EThen (P:Program) (H:Heap) (b:AC) (Q:Exit→St→Prop):Exit→St→Prop:=AThen (b.wp P H Q) Q
def EBlock (id:Nat) (Q:Exit→St→Prop):Exit→St→Prop:=ABlock id Q
def EScope (Q:Exit→St→Prop):Exit→St→Prop:=AScope Q
def EAgain {ι:Type} (H:Heap) (T:ι→List (Nat × AV)) (S:ι→Heap) (μ:ι→Nat) (m:Nat) (Q:Exit→St→Prop):Exit→St→Prop :=
  AThen (fun s'=>∃ j,μ j<m∧LeE H s' ⟨T j,S j⟩) Q
def Red {α:Type} (a b:α):Prop:=a=b
theorem Red.trans {α:Type} {a b c:α} (h:Red a b) (h':Red b c):Red a c:=Eq.trans h h'
theorem Rz {α:Type} {a:α}:Red a a:=Eq.refl a
section
variable {P:Program} {H h h':Heap} {Q:Exit→St→Prop} {K:St→Prop} {t t':List (Nat × AV)} {d:Nat} {l:List AO} {op:AOp} {v:AV}
theorem e_op_ {c:Prop} {d:Option Nat} (hc:op.isCall=false) (hr:Red (op.den (AOpd.ev t) h) (.ok c v h')) (hp:c) (hn:AOs.wp P l K (St.put ⟨t,h⟩ d v h')):EOps P (⟨d,op,none⟩ :: l) K t h:=by
  have hs:op.sem (AOpd.ev t) h (fun v h'=>AOs.wp P l K (St.put ⟨t,h⟩ d v h')):=by
    refine sem_den _ _ _ _ ?_
    rw [show op.den (AOpd.ev t) h=.ok c v h' from hr];exact⟨hp,hn⟩
  cases op <;> first|exact hs|exact next_any hs|(simp [AOp.isCall] at hc)
theorem e_op {c:Prop} {r:Den} (hc:op.isCall=false) (hr:Red (op.den (AOpd.ev t) h) r) (he:Red r (.ok c v h')) (hp:c) (hn:EOps P l K ((d,v) :: t) h'):EOps P (⟨some d,op,none⟩ :: l) K t h:=e_op_ hc (hr.trans he) hp hn
theorem e_do {c:Prop} {r:Den} (hc:op.isCall=false) (hr:Red (op.den (AOpd.ev t) h) r) (he:Red r (.ok c v h')) (hp:c) (hn:EOps P l K t h'):EOps P (⟨none,op,none⟩ :: l) K t h:=e_op_ hc (hr.trans he) hp hn
theorem e_if {d:Option Nat} {g:Nat} {want:Bool} (b:Bool) (hb:Red (lk t g) (.bool b)) (h1:b=want→EOps P (⟨d,op,none⟩ :: l) K t h) (h2:b≠want→AOs.wp P l K (St.put ⟨t,h⟩ d (.tuple []) h)):EOps P (⟨d,op,some (g,want)⟩ :: l) K t h:=by
  simp only [EOps,AOs.wp,AO.wp,show lk t g=_ from hb] at h1 h2 ⊢
  split
  · rename_i hbw;exact h1 hbw
  · rename_i hbw;exact h2 hbw
theorem e_yes {d:Option Nat} {g:Nat} {want:Bool} (hb:Red (lk t g) (.bool want)) (h1:EOps P (⟨d,op,none⟩ :: l) K t h):EOps P (⟨d,op,some (g,want)⟩ :: l) K t h :=
  e_if want hb (fun _=>h1) (fun hn=>absurd rfl hn)
theorem e_no {g:Nat} {want b:Bool} (hb:Red (lk t g) (.bool b)) (hbw:b≠want) (h2:EOps P l K ((d,.tuple []) :: t) h):EOps P (⟨some d,op,some (g,want)⟩ :: l) K t h :=
  e_if b hb (fun hn=>absurd hn hbw) (fun _=>h2)
theorem e_no' {g:Nat} {want b:Bool} (hb:Red (lk t g) (.bool b)) (hbw:b≠want) (h2:EOps P l K t h):EOps P (⟨none,op,some (g,want)⟩ :: l) K t h :=
  e_if b hb (fun hn=>absurd hn hbw) (fun _=>h2)
theorem e_un {g:Nat} {want:Bool} (hb:Red (lk t g) (.tuple [])) (h2:EOps P l K ((d,.tuple []) :: t) h):EOps P (⟨some d,op,some (g,want)⟩ :: l) K t h:=by
  simp only [EOps,AOs.wp,AO.wp,show lk t g=_ from hb] at h2 ⊢
  exact h2
theorem e_call {f:FuncId} {args:List AOpd} {as:List AV} {R:AV→Heap→Prop} (ha:Red (args.map (AOpd.ev t)) as) (hc:ACalls P f as h R) (hn:∀ v h',R v h'→EOps P l K ((d,v) :: t) h'):EOps P (⟨some d,.callF f args,none⟩ :: l) K t h :=
  ⟨R,(show _=as from ha) ▸ hc,hn⟩
theorem e_callV {f:AOpd} {g:FuncId} {first caps as:List AV} {args:List AOpd} {R:AV→Heap→Prop} (hf:Red (f.ev t) (.fn (.func g) first caps)) (ha:Red (first++args.map (AOpd.ev t)++caps) as) (hc:ACalls P g as h R)
    (hn:∀ v h',R v h'→EOps P l K ((d,v) :: t) h'):EOps P (⟨some d,.callV f args,none⟩ :: l) K t h:=by
  simp only [EOps,AOs.wp,AO.wp,AO.run,show f.ev t=_ from hf]
  exact⟨R,(show _=as from ha) ▸ hc,hn⟩
theorem e_seq {a b:AC} (hn:ECode P H a (EThen P H b Q) t h):ECode P H (.seq a b) Q t h:=hn
theorem e_ops {ks:List Nat} (hn:EOps P l (ENext Q ks) t h):ECode P H (.ops l (some ks)) Q t h:=hn
theorem e_end {ks:List Nat} (ht:Red (ks.map (fun k=>(k,lk t k))) t') (hn:EQ Q .normal t' h):EOps P [] (ENext Q ks) t h:=by
  have ht':ks.map (fun k=>(k,lk t k))=t':=ht
  subst ht';exact hn
theorem e_skip (hn:EQ Q .normal t h):ECode P H .skip Q t h:=hn
theorem e_exit {id:Nat} (hn:EQ Q (.exit id) t h):ECode P H (.exit id) Q t h:=hn
theorem e_ret (hn:EQ Q .ret t h):ECode P H .ret Q t h:=hn
theorem e_block {id:Nat} {a:AC} (hn:ECode P H a (EBlock id Q) t h):ECode P H (.block id a) Q t h:=hn
theorem e_scope {a:AC} (hn:ECode P H a (EScope Q) t h):ECode P H (.scope a) Q t h:=hn
theorem e_loop {ι:Type} {a:AC} (T:ι→List (Nat × AV)) (S:ι→Heap) (μ:ι→Nat) (i:ι) (h0:LeE H ⟨t,h⟩ ⟨T i,S i⟩) (hn:∀ i,ECode P H a (EAgain H T S μ (μ i) Q) (T i) (S i)):ECode P H (.loop a) Q t h :=
  ⟨ι,fun i=>⟨T i,S i⟩,μ,i,h0,hn⟩
theorem e_cond {c:AOpd} {a b:AC} (x:Bool) (hc:Red (c.ev t) (.bool x)) (h1:x=true→ECode P H a Q t h) (h2:x=false→ECode P H b Q t h):ECode P H (.cond c a b) Q t h:=by
  simp only [ECode,AC.wp,show c.ev t=_ from hc]
  exact⟨h1,h2⟩
theorem e_dec {c:AOpd} {a b:AC} {p:Prop} {_:Decidable p} (hc:Red (c.ev t) (.bool (decide p))) (h1:p→ECode P H a Q t h) (h2:¬ p→ECode P H b Q t h):ECode P H (.cond c a b) Q t h :=
  e_cond _ hc (fun hx=>h1 (of_decide_eq_true hx)) (fun hx=>h2 (of_decide_eq_false hx))
theorem e_true {c:AOpd} {a b:AC} (hc:Red (c.ev t) (.bool true)) (h1:ECode P H a Q t h):ECode P H (.cond c a b) Q t h :=
  e_cond _ hc (fun _=>h1) (fun hx=>by cases hx)
theorem e_false {c:AOpd} {a b:AC} (hc:Red (c.ev t) (.bool false)) (h1:ECode P H b Q t h):ECode P H (.cond c a b) Q t h :=
  e_cond _ hc (fun hx=>by cases hx) (fun _=>h1)
theorem q_then {b:AC} (hn:ECode P H b Q t h):EQ (EThen P H b Q) .normal t h:=hn
theorem q_ret {b:AC} (hn:EQ Q .ret t h):EQ (EThen P H b Q) .ret t h:=hn
theorem q_exit {b:AC} {id:Nat} (hn:EQ Q (.exit id) t h):EQ (EThen P H b Q) (.exit id) t h:=hn
theorem q_block {id:Nat} (hn:EQ Q .normal t h):EQ (EBlock id Q) .normal t h:=hn
theorem q_block_ret {id:Nat} (hn:EQ Q .ret t h):EQ (EBlock id Q) .ret t h:=hn
theorem q_block_exit {id:Nat} (hn:EQ Q .normal t h):EQ (EBlock id Q) (.exit id) t h:=by
  show ABlock id Q (.exit id) _
  simp only [ABlock,if_true];exact hn
theorem q_block_other {id id':Nat} (hne:id'≠id) (hn:EQ Q (.exit id') t h):EQ (EBlock id Q) (.exit id') t h:=by
  show ABlock id Q (.exit id') _
  simp only [ABlock,hne,if_false];exact hn
theorem q_scope (hn:EQ Q .normal t h):EQ (EScope Q) .normal t h:=hn
theorem q_scope_ret (hn:EQ Q .ret t h):EQ (EScope Q) .ret t h:=hn
theorem q_again {ι:Type} {T:ι→List (Nat × AV)} {S:ι→Heap} {μ:ι→Nat} {m:Nat} (j:ι) (hm:μ j<m) (hn:LeE H ⟨t,h⟩ ⟨T j,S j⟩):EQ (EAgain H T S μ m Q) .normal t h:=⟨j,hm,hn⟩
theorem q_again_ret {ι:Type} {T:ι→List (Nat × AV)} {S:ι→Heap} {μ:ι→Nat} {m:Nat} (hn:EQ Q .ret t h):EQ (EAgain H T S μ m Q) .ret t h:=hn
theorem q_again_exit {ι:Type} {T:ι→List (Nat × AV)} {S:ι→Heap} {μ:ι→Nat} {m id:Nat} (hn:EQ Q (.exit id) t h):EQ (EAgain H T S μ m Q) (.exit id) t h:=hn
theorem q_post {rs:List AR} {R:AV→Heap→Prop} {e:Exit} {v v':AV} (he:e=.normal∨e=.ret) (hv:Red (resV ⟨t,h⟩ rs) (some v)) (hl:Le H ⟨[(0,v)],h⟩ ⟨[(0,v')],h'⟩) (hr:R v' h'):EQ (Post H rs R) e t h :=
  ⟨he,v,hv,v',h',.inr hl,hr⟩
theorem q_stay {rs:List AR} {R:AV→Heap→Prop} {e:Exit} {v:AV} (he:e=.normal∨e=.ret) (hv:Red (resV ⟨t,h⟩ rs) (some v)) (hr:R v h):EQ (Post H rs R) e t h :=
  ⟨he,v,hv,v,h,.inl ⟨rfl,rfl⟩,hr⟩
theorem acalls_of {f:FuncId} {ac:AC} {ars:List AR} {n:Nat} {args:List AV} {H:Heap} {R:AV→Heap→Prop} (k:FnOK P f ac ars n) (hl:args.length=n)
    (hw:Closed H→ECode P H ac (Post H ars R) (argsT 0 args) H):ACalls P f args H R:=by
  exact k.calls hl hw
end
section
variable {P:Program} {H h h':Heap} {Q:Exit→St→Prop} {K:St→Prop} {t t':List (Nat × AV)} {d:Nat} {l:List AO} {op:AOp} {v:AV} {g:Nat} {p:Prop} {_:Decidable p}
theorem g_yes (hb:Red (lk t g) (.bool (decide p))) (h1:p→EOps P (⟨some d,op,none⟩ :: l) K t h) (h2:¬ p→EOps P l K ((d,.tuple []) :: t) h):EOps P (⟨some d,op,some (g,true)⟩ :: l) K t h :=
  e_if _ hb (fun hx=>h1 (of_decide_eq_true hx)) (fun hx=>h2 (fun hp=>hx (decide_eq_true hp)))
theorem g_no (hb:Red (lk t g) (.bool (decide p))) (h1:p→EOps P l K ((d,.tuple []) :: t) h) (h2:¬ p→EOps P (⟨some d,op,none⟩ :: l) K t h):EOps P (⟨some d,op,some (g,false)⟩ :: l) K t h :=
  e_if _ hb (fun hx=>h2 (of_decide_eq_false hx)) (fun hx=>h1 (Classical.byContradiction fun hp=>hx (decide_eq_false hp)))
end
/-! ### Forgetting -/
def sh (n:Nat) (ps:List Nat) (i:Nat):Nat:=if i<n then i else n+ps.getD (i-n) 0
theorem lk_mem {t:List (Nat × AV)} (k:Nat):lk t k=.junk∨(k,lk t k)∈t:=by
  induction t with
  | nil=>exact .inl rfl
  | cons p t ih =>
    obtain⟨j,v⟩:=p
    simp only [lk]
    split
    · rename_i hj;subst hj;exact .inr (by simp)
    · rcases ih with h|h
      · exact .inl h
      · exact .inr (List.mem_cons_of_mem _ h)
theorem le_keep {H G G':Heap} {t t':List (Nat × AV)} (ps:List Nat) (hl:G'.length=ps.length) (hd:ps.Nodup)
    (ho:∀ (k p:Nat) (o:AObj),G'[k]?=some o→ps[k]?=some p→o=.dead∨(o.sc (H.length+G'.length)=true∧G[p]?=some (o.ren (sh H.length ps))))
    (hv:∀ x∈t',x.2.sc (H.length+G'.length)=true∧lk t x.1=x.2.ren (sh H.length ps)):Le H ⟨t,H++G⟩ ⟨t',H++G'⟩:=by
  refine⟨by simp,sh H.length ps,fun i hi=>by simp [sh,hi],?_,?_,?_⟩
  · intro i o hi
    simp only at hi ⊢
    rcases Nat.lt_or_ge i H.length with h|h
    · rw [List.getElem?_append_left h] at hi
      exact .inr (.inl ⟨hi,by rw [List.getElem?_append_left h];exact hi⟩)
    · rw [List.getElem?_append_right h] at hi
      have h2:i-H.length<ps.length:=by
        rw [← hl];exact (List.getElem?_eq_some_iff.1 hi).1
      rcases ho _ _ o hi (List.getElem?_eq_getElem h2) with h3|⟨h3,h4⟩
      · exact .inl h3
      · refine .inr (.inr ⟨by simpa using h3,?_⟩)
        have:sh H.length ps i=H.length+ps[i-H.length]:=by
          simp [sh,Nat.not_lt.2 h,List.getD_eq_getElem?_getD,List.getElem?_eq_getElem h2]
        rw [this,List.getElem?_append_right (by omega)]
        simpa using h4
  · intro i j oi oj hi hj _ _ hij
    simp only at hi hj
    have bnd:∀ (k:Nat) (o:AObj),(H++G')[k]?=some o→H.length≤k→k-H.length<ps.length:=by
      intro k o hk hge
      have:=(List.getElem?_eq_some_iff.1 hk).1
      simp only [List.length_append] at this
      omega
    have e1:∀ (k:Nat) (o:AObj),(H++G')[k]?=some o→H.length≤k→∃ hk:k-H.length<ps.length,sh H.length ps k=H.length+ps[k-H.length]:=by
      intro k o hk hge
      have h2:=bnd k o hk hge
      exact⟨h2,by simp [sh,Nat.not_lt.2 hge,List.getD_eq_getElem?_getD,List.getElem?_eq_getElem h2]⟩
    rcases Nat.lt_or_ge i H.length with h1|h1 <;> rcases Nat.lt_or_ge j H.length with h2|h2
    · simp [sh,h1,h2,hij]
    · obtain⟨_,e⟩:=e1 j oj hj h2
      rw [e];simp only [sh,h1,if_true];omega
    · obtain⟨_,e⟩:=e1 i oi hi h1
      rw [e];simp only [sh,h2,if_true];omega
    · obtain⟨b1,e⟩:=e1 i oi hi h1
      obtain⟨b2,e'⟩:=e1 j oj hj h2
      rw [e,e']
      intro h3
      have h4:ps[i-H.length]=ps[j-H.length]:=by omega
      have hp:=List.pairwise_iff_getElem.1 hd
      rcases Nat.lt_trichotomy (i-H.length) (j-H.length) with h5|h5|h5
      · exact hp _ _ b1 b2 h5 h4
      · omega
      · exact hp _ _ b2 b1 h5 h4.symm
  · intro k
    rcases lk_mem (t:=t') k with h|h
    · exact .inl h
    · obtain⟨h1,h2⟩:=hv _ h
      exact .inr ⟨by simpa using h1,h2⟩
theorem le_drop {H G:Heap} {t t':List (Nat × AV)} (hv:∀ x∈t',x.2.sc H.length=true∧lk t x.1=x.2):Le H ⟨t,H++G⟩ ⟨t',H⟩:=by
  have:=le_keep (H:=H) (G:=G) (G':=[]) (t:=t) (t':=t') [] rfl (by simp) (by simp) (fun x hx=>by
    obtain⟨h1,h2⟩:=hv x hx
    refine⟨by simpa using h1,?_⟩
    rw [h2,ren_id (m:=H.length) (fun i hi=>by simp [sh,hi]) _ h1])
  simpa using this
theorem le_same {H G:Heap} {t t':List (Nat × AV)} (hG:∀ o∈G,o.sc (H.length+G.length)=true) (hv:∀ x∈t',x.2.sc (H.length+G.length)=true∧Red (lk t x.1) x.2):Le H ⟨t,H++G⟩ ⟨t',H++G⟩:=by
  refine⟨by simp,fun i=>i,fun _ _=>rfl,?_,fun i j _ _ _ _ _ _ h=>h,?_⟩
  · intro i o hi
    simp only at hi ⊢
    rcases Nat.lt_or_ge i H.length with h|h
    · exact .inr (.inl ⟨by rw [List.getElem?_append_left h] at hi;exact hi,hi⟩)
    · rw [List.getElem?_append_right h] at hi
      have h1:=hG o (List.mem_of_getElem? hi)
      refine .inr (.inr ⟨by simpa using h1,?_⟩)
      rw [List.getElem?_append_right h,hi]
      cases o with
      | dead=>rfl
      | other x=>simp only [AObj.ren,oren_id (ρ:=fun i=>i) (m:=H.length+G.length) (fun _ _=>rfl) x h1]
      | cells vs own =>
        have:renL (fun i=>i) vs=vs:=renL_id (m:=H.length+G.length) (fun _ _=>rfl) vs h1
        simp only [AObj.ren,this]
  · intro k
    rcases lk_mem (t:=t') k with h|h
    · exact .inl h
    · obtain⟨h1,h2⟩:=hv _ h
      refine .inr ⟨by simpa using h1,?_⟩
      have h3:(lk t' k).ren (fun i=>i)=lk t' k:=ren_id (m:=H.length+G.length) (fun _ _=>rfl) _ h1
      show lk t k=(lk t' k).ren (fun i=>i)
      rw [h3];exact h2
theorem rd_lt {H:Heap} {id off n:Nat} {vs:List AV} (h:rd H id off n=some vs):id<H.length:=by
  unfold rd at h
  split at h
  · rename_i hi;exact (List.getElem?_eq_some_iff.1 hi).1
  · cases h
theorem rd_at {H:Heap} {id off sz n:Nat} {vs:List AV} (h:rd H id off (n * sz)=some vs) {i:Nat} (hi:i<n):rd H id (off+i * sz) sz=some ((vs.drop (i * sz)).take sz):=by
  unfold rd at h ⊢
  split at h
  · rename_i cs own hc
    split at h
    · rename_i hle
      simp only [Option.some.injEq] at h
      subst h
      have h1:i * sz+sz≤n * sz:=by
        have:(i+1) * sz≤n * sz:=Nat.mul_le_mul_right _ hi
        rw [Nat.add_mul,Nat.one_mul] at this;exact this
      rw [if_pos (by omega),List.drop_take,List.take_take,List.drop_drop,Nat.min_eq_left (by omega)]
    · cases h
  · cases h
theorem q_drop {H G:Heap} {t:List (Nat × AV)} {rs:List AR} {R:AV→Heap→Prop} {e:Exit} {v:AV} (he:e=.normal∨e=.ret) (hv:Red (resV ⟨t,H++G⟩ rs) (some v)) (hs:v.sc H.length=true) (hr:R v H):EQ (Post H rs R) e t (H++G) :=
  q_post he hv (le_drop (by simp [hs,lk])) hr
end Go.Abs
