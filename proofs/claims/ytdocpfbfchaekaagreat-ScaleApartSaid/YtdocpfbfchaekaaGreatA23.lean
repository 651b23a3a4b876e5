/- The abstract machine, run: code and calls. -/
import Derived.Test.YtdocpfbfchaekaaGreatA22
namespace Go.Abs
open Go.RowKit
structure Ent where
  ac:AC
  rs:List AR
  n:Nat
section
variable (call:FuncId→List AV→Heap→Option (AV × Heap)) (yl:Nat→List AV→Heap→Option (AV × Heap))
def runOne (o:AOp) (s:St):Option (AV × Heap) :=
  match o with
  | .callF f args=>call f (args.map (AOpd.ev s.t)) s.h
  | .callV f args=>match f.ev s.t with
    | .fn (.func g) first caps=>call g (first++args.map (AOpd.ev s.t)++caps) s.h
    | .yield id=>yl id (args.map (AOpd.ev s.t)) s.h
    | _=>none
  | op=>op.fx (AOpd.ev s.t) s.h
def wants (o:AO) (t:List (Nat × AV)):Option Bool :=
  match o.guard with
  | none=>some true
  | some (g,want)=>match lk t g with
    | .bool b=>some (b == want)
    | .tuple []=>some false
    | _=>none
def runOps:List AO→St→Option St
  | [],s=>some s
  | o :: os,s=>match wants o s.t with
    | some true=>match runOne call yl o.op s with
      | some (v,h')=>runOps os (s.put o.dst v h')
      | none=>none
    | some false=>runOps os (s.put o.dst (.tuple []) s.h)
    | none=>none
def reads (o:AOp) (t:List (Nat × AV)) (h:Heap) (v:AV):Bool :=
  match o.fx (AOpd.ev t) h with
  | some (v',_)=>v'.beq v
  | none=>false
def pastOK (ps:List (List Nat)) (i:Nat) (o:AOp) (t:List (Nat × AV)) (v:AV) (past:List (Nat × Heap)):Bool :=
  past.all fun p=>(pr ps i).contains p.1 || reads o t p.2 v
def readsOK (ps:List (List Nat)) (i:Nat) (h:Heap) (rds:List Rd):Bool :=
  rds.all fun r=>(pr ps i).contains r.at_ || reads r.op r.t h r.v
def scopedB (o:AOp) (t:List (Nat × AV)) (m:Nat):Bool:=o.slots.all fun k=>(lk t k).sc m
def runDraw (ps:List (List Nat)):List AO→Nat→List (Nat × Heap)→List Rd→St→Option St
  | [],_,_,_,s=>some s
  | o :: os,i,past,rds,s=>match wants o s.t with
    | some true=>match o.op.cls with
      | 0=>match o.op.fx (AOpd.ev s.t) s.h with
        | some (v,_)=>runDraw ps os (i+1) past rds (s.put o.dst v s.h)
        | none=>none
      | 1=>match o.op.fx (AOpd.ev s.t) s.h with
        | some (v,_)=>if pastOK ps i o.op s.t v past=true then runDraw ps os (i+1) past (⟨i,o.op,s.t,v⟩ :: rds) (s.put o.dst v s.h) else none
        | none=>none
      | 2=>match o.op.fx (AOpd.ev s.t) s.h with
        | some (v,h')=>if scopedB o.op s.t s.h.length=true∧readsOK ps i h' rds=true then
            runDraw ps os (i+1) ((i,s.h) :: past) (rds.filter fun r=>!(pr ps i).contains r.at_) (s.put o.dst v h') else none
        | none=>none
      | _=>match runOne call yl o.op s with
        | some (v,h')=>if scopedB o.op s.t s.h.length=true∧s.h.length≤h'.length∧readsOK ps i h' rds=true then
            runDraw ps os (i+1) ((i,s.h) :: past) (rds.filter fun r=>!(pr ps i).contains r.at_) (s.put o.dst v h') else none
        | none=>none
    | some false=>runDraw ps os (i+1) past rds (s.put o.dst (.tuple []) s.h)
    | none=>none
def runLoop (body:St→Option (Exit × St)):Nat→St→Option (Exit × St)
  | 0,_=>none
  | n+1,s=>match body s with
    | some (.normal,s')=>runLoop body n s'
    | r=>r
def runC (n:Nat):AC→St→Option (Exit × St)
  | .skip,s=>some (.normal,s)
  | .ops l live,s=>(runOps call yl l s).map fun s'=>(.normal,s'.prune live)
  | .draw l ps live,s=>(runDraw call yl ps l 0 [] [] s).map fun s'=>(.normal,s'.prune live)
  | .seq a b,s=>match runC n a s with
    | some (.normal,s')=>runC n b s'
    | r=>r
  | .cond c a b,s=>match c.ev s.t with
    | .bool true=>runC n a s
    | .bool false=>runC n b s
    | _=>none
  | .block id a,s=>match runC n a s with
    | some (.exit id',s')=>if id'=id then some (.normal,s') else some (.exit id',s')
    | r=>r
  | .loop a,s=>runLoop (runC n a) n s
  | .scope a,s=>match runC n a s with
    | some (.goto _,_)=>none
    | r=>r
  | .exit id,s=>some (.exit id,s)
  | .ret,s=>some (.ret,s)
  | .rangeFunc f ps a b,s=>match f.ev s.t with
    | .fn (.func g) first caps=>if tSc s.h.length s.t=true then match call g (first++[.yield s.h.length]++caps) (s.h++[.other (.loop s.t ps a b .ready)]) with
      | some (_,h')=>match h'[s.h.length]? with
        | some (.other (.loop _ _ _ _ .ready))=>some (.normal,⟨s.t,h'.set s.h.length .dead⟩)
        | some (.other (.loop _ _ _ _ (.done j)))=>some (j.ex,⟨s.t,h'.set s.h.length .dead⟩)
        | _=>none
      | none=>none else none
    | _=>none
  | .bad,_=>none
def runRound (n:Nat) (id:Nat) (args:List AV) (h:Heap):Option (AV × Heap) :=
  match h[id]? with
  | some (.other (.loop t ps a b .ready))=>if args.length=ps.length then match runC call yl n a ⟨roundT ps args t,h⟩ with
    | some (.normal,s1)=>match s1.h[id]? with
      | some (.other (.loop t1 ps1 a1 b1 .ready))=>match runC call yl n b ⟨s1.t,s1.h.set id (.other (.loop t1 ps1 a1 b1 .busy))⟩ with
        | some (e,s2)=>match s2.h[id]? with
          | some (.other (.loop t2 ps2 a2 b2 .busy))=>match e with
            | .normal=>some (.bool true,s2.h.set id (.other (.loop t2 ps2 a2 b2 .ready)))
            | .ret=>some (.bool false,s2.h.set id (.other (.loop t2 ps2 a2 b2 (.done .ret))))
            | .exit k=>some (.bool false,s2.h.set id (.other (.loop t2 ps2 a2 b2 (.done (.exit k)))))
            | _=>none
          | _=>none
        | none=>none
      | _=>none
    | _=>none else none
  | _=>none
end
def runF (T:FuncId→Option Ent) (call:FuncId→List AV→Heap→Option (AV × Heap)) (yl:Nat→List AV→Heap→Option (AV × Heap)) (n:Nat) (f:FuncId) (args:List AV) (h:Heap):Option (AV × Heap) :=
  match T f with
  | some e=>if args.length=e.n then match runC call yl n e.ac ⟨argsT 0 args,h⟩ with
    | some (.normal,s)|some (.ret,s)=>match resV s e.rs with
      | some v=>some (v,s.h)
      | none=>none
    | _=>none else none
  | none=>none
def run (T:FuncId→Option Ent):Nat→(FuncId→List AV→Heap→Option (AV × Heap)) × (Nat→List AV→Heap→Option (AV × Heap))
  | 0=>(fun _ _ _=>none,fun _ _ _=>none)
  | n+1=>(runF T (run T n).1 (run T n).2 n,runRound (run T n).1 (run T n).2 n)
/-! ### It is what the laws say -/
section
variable {P:Program} {call:FuncId→List AV→Heap→Option (AV × Heap)} {yl:Nat→List AV→Heap→Option (AV × Heap)}
def CallsOK (P:Program) (call:FuncId→List AV→Heap→Option (AV × Heap)):Prop:=∀ f args h v h',call f args h=some (v,h')→ACalls P f args h (fun v' h''=>v'=v∧h''=h')
def YieldsOK (P:Program) (yl:Nat→List AV→Heap→Option (AV × Heap)):Prop:=∀ id args h v h',yl id args h=some (v,h')→AYields P id args h (fun v' h''=>v'=v∧h''=h')
theorem runOne_fx {o:AOp} {s:St} (h:o.isCall=false):runOne call yl o s=o.fx (AOpd.ev s.t) s.h:=by
  cases o <;> first|rfl|(simp [AOp.isCall] at h;done)
theorem runOne_eff (hc:CallsOK P call) (hy:YieldsOK P yl) {o:AOp} {s:St} {v:AV} {h':Heap} (hr:runOne call yl o s=some (v,h')) {K:AV→Heap→Prop} (hK:K v h'):o.eff P s K:=by
  cases o
  case callF f args=>exact⟨v,h',hc _ _ _ _ _ hr,hK⟩
  case callV f args =>
    simp only [runOne] at hr
    simp only [AOp.eff]
    split at hr
    · rename_i hf;rw [hf];exact⟨v,h',hc _ _ _ _ _ hr,hK⟩
    · rename_i hf;rw [hf];exact⟨v,h',hy _ _ _ _ _ hr,hK⟩
    · cases hr
  all_goals (rw [runOne_fx rfl] at hr;exact fx_sem hr hK)
theorem runOne_run (hc:CallsOK P call) (hy:YieldsOK P yl) {o:AO} {s:St} {v:AV} {h':Heap} (hr:runOne call yl o.op s=some (v,h')) {K:St→Prop} (hK:K (s.put o.dst v h')):o.run P K s:=by
  obtain⟨dst,op,g⟩:=o
  cases op
  case callF f args=>exact⟨_,hc _ _ _ _ _ hr,by rintro _ _ ⟨rfl,rfl⟩;exact hK⟩
  case callV f args =>
    simp only [runOne] at hr
    simp only [AO.run]
    split at hr
    · rename_i hf;rw [hf];exact⟨_,hc _ _ _ _ _ hr,by rintro _ _ ⟨rfl,rfl⟩;exact hK⟩
    · rename_i hf;rw [hf];exact⟨_,hy _ _ _ _ _ hr,by rintro _ _ ⟨rfl,rfl⟩;exact hK⟩
    · cases hr
  case nextM i=>rw [runOne_fx rfl] at hr;exact next_any (fx_sem (K:=fun v h'=>K (s.put dst v h')) hr hK)
  all_goals (rw [runOne_fx rfl] at hr;exact fx_sem (K:=fun v h'=>K (s.put dst v h')) hr hK)
end
end Go.Abs
