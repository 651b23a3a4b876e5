/- The abstract machine, run for the kernel: code. -/
import Derived.Test.YteinjjoonmdakaaA28
set_option linter.unusedSimpArgs false
set_option linter.unusedVariables false
namespace Go.Abs
open Go.RowKit
abbrev Tm := List (Nat × AV)
section

noncomputable def scR (m : Nat) (v : AV) : Bool :=
  AV.rec (motive_1 := fun _ => Bool) (motive_2 := fun _ => Bool) (fun _ => true) (fun _ _ => true) (fun _ => true) (fun i _ => Nat.ble (Nat.succ i) m) true (fun i _ _ _ _ => Nat.ble (Nat.succ i) m) true (fun i => Nat.ble (Nat.succ i) m) true
    (fun _ _ _ ia ib => yes ia ib false) true (fun i => Nat.ble (Nat.succ i) m) (fun _ _ ih => ih) true (fun _ ih => ih) (fun _ ih => ih) true true (fun _ _ iv il => yes iv il false) v
mutual
theorem scR_eq (m : Nat) : ∀ v : AV, scR m v = v.sc m
  | .bool _ | .int _ _ | .str _ | .nil | .nilslice | .nilmap | .nilfn | .niliface | .junk => rfl
  | .ptr i _ => ble_dec _ _
  | .slice i _ _ _ _ => ble_dec _ _
  | .map i => ble_dec _ _
  | .yield i => ble_dec _ _
  | .fn f a b => (congr (congrArg (fun x y => yes x y false) (scRL_eq m a)) (scRL_eq m b)).trans (by rw [AV.sc, yes_eq]; cases scL m a <;> simp)
  | .iface t v => scR_eq m v
  | .agg cs => scRL_eq m cs
  | .tuple cs => scRL_eq m cs
theorem scRL_eq (m : Nat) : ∀ l : List AV, (AV.rec_1 (motive_1 := fun _ => Bool) (motive_2 := fun _ => Bool) (fun _ => true) (fun _ _ => true) (fun _ => true) (fun i _ => Nat.ble (Nat.succ i) m) true (fun i _ _ _ _ => Nat.ble (Nat.succ i) m) true (fun i => Nat.ble (Nat.succ i) m) true
    (fun _ _ _ ia ib => yes ia ib false) true (fun i => Nat.ble (Nat.succ i) m) (fun _ _ ih => ih) true (fun _ ih => ih) (fun _ ih => ih) true true (fun _ _ iv il => yes iv il false) l : Bool) = scL m l
  | [] => rfl
  | v :: l => (congr (congrArg (fun x y => yes x y false) (scR_eq m v)) (scRL_eq m l)).trans (by rw [scL, yes_eq]; cases v.sc m <;> simp)
end

def beqT (v w : AV) : Bool := match v, w with
  | .int q a, .int q' b => yes (keq q q') (ieq a b) false
  | .ptr i o, .ptr j p => yes (Nat.beq i j) (Nat.beq o p) false
  | v, w => v.beq w
noncomputable def readsT (o : AOp) (t : Tm) (tr : Tr) (s : Nat) (v : AV) : Bool := match fxT o t tr s (fun v' _ _ => yes (beqT v' v) (some (.junk, .nil, 0)) none) with
  | some _ => true
  | none => false
noncomputable def prR (ps : List (List Nat)) (i : Nat) : List Nat := match getR ps i with
  | some l => l
  | none => []
noncomputable def filterR {γ : Type} (p : γ → Bool) (l : List γ) : List γ := List.rec (motive := fun _ => List γ) [] (fun a _ ih => Bool.casesOn (motive := fun _ => List γ) (p a) ih (a :: ih)) l
abbrev Past := List (Nat × Tr × Nat)
noncomputable def abP (p : Past) : List (Nat × Heap) := p.map fun x => (x.1, ab x.2.1 x.2.2)
noncomputable def pastT (ps : List (List Nat)) (i : Nat) (o : AOp) (t : Tm) (v : AV) (past : Past) : Bool := allR (fun p => yes (memR p.1 (prR ps i)) true (readsT o t p.2.1 p.2.2 v)) past
noncomputable def recT (ps : List (List Nat)) (i : Nat) (tr : Tr) (s : Nat) (rds : List Rd) : Bool := allR (fun r => yes (memR r.at_ (prR ps i)) true (readsT r.op r.t tr s r.v)) rds
noncomputable def leftR (ps : List (List Nat)) (i : Nat) (rds : List Rd) : List Rd := filterR (fun r => !memR r.at_ (prR ps i)) rds
noncomputable def scopT (o : AOp) (t : Tm) (s : Nat) : Bool := allR (fun k => scR s (lkR t k)) o.slots
abbrev CallT := FuncId → List AV → Tr → Nat → Option (AV × Tr × Nat)
abbrev YlT := Nat → List AV → Tr → Nat → Option (AV × Tr × Nat)
def CallS (c' : CallT) (c : FuncId → List AV → Heap → Option (AV × Heap)) : Prop := ∀ f args tr s v tr' s', c' f args tr s = some (v, tr', s') → c f args (ab tr s) = some (v, ab tr' s')
def YlS (c' : YlT) (c : Nat → List AV → Heap → Option (AV × Heap)) : Prop := ∀ f args tr s v tr' s', c' f args tr s = some (v, tr', s') → c f args (ab tr s) = some (v, ab tr' s')
def outT (r : Option (AV × Tr × Nat)) (K : Kt) : Option RT := match r with
  | some (v, tr, s) => K v tr s
  | none => none

noncomputable def wantsR (o : AO) (t : Tm) (k : Bool → Option RT) : Option RT := match o.guard with
  | none => k true
  | some p => match lkR t p.1 with
    | .bool b => Bool.casesOn (motive := fun _ => Option RT) b (Bool.casesOn (motive := fun _ => Option RT) p.2 (k true) (k false)) (Bool.casesOn (motive := fun _ => Option RT) p.2 (k false) (k true))
    | .tuple [] => k false
    | _ => none
noncomputable def oneT (call : CallT) (yl : YlT) (o : AOp) (t : Tm) (tr : Tr) (s : Nat) (K : Kt) : Option RT := match o with
  | .callF f args => evsR t args fun as => outT (call f as tr s) K
  | .callV f args => match evR t f with
    | .fn (.func g) first caps => evsR t args fun as => appR as caps fun bs => appR first bs fun cs => outT (call g cs tr s) K
    | .yield id => evsR t args fun as => outT (yl id as tr s) K
    | _ => none
  | o => fxT o t tr s K
section
variable {call' : CallT} {yl' : YlT} {call : FuncId → List AV → Heap → Option (AV × Heap)} {yl : Nat → List AV → Heap → Option (AV × Heap)}
noncomputable def putR (dst : Option Nat) (v : AV) (t : Tm) (K : Tm → Option RT) : Option RT := match dst with
  | some d => K ((d, v) :: t)
  | none => K t
variable (call' yl') in
noncomputable def opsT (l : List AO) : Tm → Tr → Nat → (Tm → Tr → Nat → Option RT) → Option RT :=
  List.rec (motive := fun _ => Tm → Tr → Nat → (Tm → Tr → Nat → Option RT) → Option RT) (fun t tr s K => K t tr s)
    (fun o _ ih t tr s K => wantsR o t fun b => Bool.casesOn (motive := fun _ => Option RT) b (putR o.dst (.tuple []) t fun t => ih t tr s K) (oneT call' yl' o.op t tr s fun v tr' s' => putR o.dst v t fun t => ih t tr' s' K)) l
variable (call' yl') in
noncomputable def drawT (ps : List (List Nat)) (l : List AO) : Nat → Past → List Rd → Tm → Tr → Nat → (Tm → Tr → Nat → Option RT) → Option RT :=
  List.rec (motive := fun _ => Nat → Past → List Rd → Tm → Tr → Nat → (Tm → Tr → Nat → Option RT) → Option RT) (fun _ _ _ t tr s K => K t tr s)
    (fun o _ ih i past rds t tr s K => wantsR o t fun b => Bool.casesOn (motive := fun _ => Option RT) b (putR o.dst (.tuple []) t fun t => ih (Nat.succ i) past rds t tr s K)
      (match o.op.cls with
      | 0 => fxT o.op t tr s fun v _ _ => putR o.dst v t fun t => ih (Nat.succ i) past rds t tr s K
      | 1 => fxT o.op t tr s fun v _ _ => yes (pastT ps i o.op t v past) (putR o.dst v t fun t' => ih (Nat.succ i) past (⟨i, o.op, t, v⟩ :: rds) t' tr s K) none
      | 2 => fxT o.op t tr s fun v tr' s' => yes (scopT o.op t s) (yes (recT ps i tr' s' rds) (putR o.dst v t fun t' => ih (Nat.succ i) ((i, tr, s) :: past) (leftR ps i rds) t' tr' s' K) none) none
      | _ => oneT call' yl' o.op t tr s fun v tr' s' => yes (scopT o.op t s) (yes (Nat.ble s s') (yes (recT ps i tr' s' rds) (putR o.dst v t fun t' => ih (Nat.succ i) ((i, tr, s) :: past) (leftR ps i rds) t' tr' s' K) none) none) none)) l
abbrev Kx := Exit → Tm → Tr → Nat → Option RT
noncomputable def exR (e : Exit) (n : Option RT) (o : Exit → Option RT) : Option RT := match e with
  | .normal => n
  | e => o e
noncomputable def loopT (body : Tm → Tr → Nat → Kx → Option RT) (n : Nat) : Tm → Tr → Nat → Kx → Option RT :=
  Nat.rec (motive := fun _ => Tm → Tr → Nat → Kx → Option RT) (fun _ _ _ _ => none) (fun _ ih t tr s K => body t tr s fun e t tr s => exR e (ih t tr s K) fun e => K e t tr s) n
def CodeS (f : Tm → Tr → Nat → Kx → Option RT) (b : St → Option (Exit × St)) : Prop := ∀ (t : Tm) (tr : Tr) (s : Nat) (K : Kx) (r : RT), f t tr s K = some r → ∃ e t' tr' s', K e t' tr' s' = some r ∧ b ⟨t, ab tr s⟩ = some (e, ⟨t', ab tr' s'⟩)
noncomputable def endR (ob : Option AObj) (k : Exit → Option RT) : Option RT := match ob with
  | some (.other (.loop _ _ _ _ .ready)) => k .normal
  | some (.other (.loop _ _ _ _ (.done j))) => k j.ex
  | _ => none
variable (call' yl') in
noncomputable def codeT (n : Nat) (c : AC) : Tm → Tr → Nat → Kx → Option RT :=
  AC.rec (motive := fun _ => Tm → Tr → Nat → Kx → Option RT)
    (fun t tr s K => K .normal t tr s)
    (fun l live t tr s K => opsT call' yl' l t tr s fun t tr s => match live with | none => K .normal t tr s | some ks => pruneR t ks fun t => K .normal t tr s)
    (fun l ps live t tr s K => drawT call' yl' ps l 0 [] [] t tr s fun t tr s => match live with | none => K .normal t tr s | some ks => pruneR t ks fun t => K .normal t tr s)
    (fun _ _ ia ib t tr s K => ia t tr s fun e t tr s => exR e (ib t tr s K) fun e => K e t tr s)
    (fun c _ _ ia ib t tr s K => match evR t c with
      | .bool b => Bool.casesOn (motive := fun _ => Option RT) b (ib t tr s K) (ia t tr s K)
      | _ => none)
    (fun id _ ia t tr s K => ia t tr s fun e t tr s => match e with
      | .exit id' => yes (Nat.beq id' id) (K .normal t tr s) (K (.exit id') t tr s)
      | e => K e t tr s)
    (fun _ ia t tr s K => loopT ia n t tr s K)
    (fun _ ia t tr s K => ia t tr s fun e t tr s => match e with
      | .goto _ => none
      | e => K e t tr s)
    (fun id t tr s K => K (.exit id) t tr s)
    (fun t tr s K => K .ret t tr s)
    (fun f ps a b _ _ t tr s K => match evR t f with
      | .fn (.func g) first caps => yes (allR (fun x => scR s x.2) t) (appR first (.yield s :: caps) fun args => setT tr s (.other (.loop t ps a b .ready)) fun tr1 => fN (Nat.succ s) fun s1 => outT (call' g args tr1 s1) fun _ tr' s' =>
          endR (obT tr' s' s) fun e => setT tr' s .dead fun tr' => K e t tr' s') none
      | _ => none)
    (fun _ _ _ _ => none) c

end
end
end Go.Abs
