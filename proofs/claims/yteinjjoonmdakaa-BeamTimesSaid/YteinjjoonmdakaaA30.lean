/- The abstract machine, run for the kernel: a closed call. -/
import Derived.Test.YteinjjoonmdakaaA29
set_option linter.unusedSimpArgs false
set_option linter.unusedVariables false
namespace Go.Abs
open Go.RowKit
section
variable {call' : CallT} {yl' : YlT} {call : FuncId → List AV → Heap → Option (AV × Heap)} {yl : Nat → List AV → Heap → Option (AV × Heap)}
variable (call' yl') in
noncomputable def roundT' (n : Nat) (id : Nat) (args : List AV) (tr : Tr) (s : Nat) : Option (AV × Tr × Nat) :=
  match obT tr s id with
  | some (.other (.loop t ps a b .ready)) => yes (Nat.beq (lenR args) (lenR ps)) (fT (roundT ps args t) fun t => codeT call' yl' n a t tr s fun e t1 tr1 s1 => match e with
    | .normal => match obT tr1 s1 id with
      | some (.other (.loop t0 ps1 a1 b1 .ready)) => setT tr1 id (.other (.loop t0 ps1 a1 b1 .busy)) fun tr1 => codeT call' yl' n b t1 tr1 s1 fun e _ tr2 s2 => match obT tr2 s2 id with
          | some (.other (.loop t2 ps2 a2 b2 .busy)) => match e with
            | .normal => setT tr2 id (.other (.loop t2 ps2 a2 b2 .ready)) fun tr => some (.bool true, tr, s2)
            | .ret => setT tr2 id (.other (.loop t2 ps2 a2 b2 (.done .ret))) fun tr => some (.bool false, tr, s2)
            | .exit k => setT tr2 id (.other (.loop t2 ps2 a2 b2 (.done (.exit k)))) fun tr => some (.bool false, tr, s2)
            | _ => none
          | _ => none
      | _ => none
    | _ => none) none
  | _ => none
noncomputable def arT (a : AR) (t : Tm) (tr : Tr) (s : Nat) (k : AV → Option RT) : Option RT := match a with
  | .t n => wV (lkR t n) k
  | .cell1 n => match lkR t n with
    | .ptr id off => rd1T tr s id off k
    | _ => none
  | .cellN n m => match lkR t n with
    | .ptr id off => rdT tr s id off m fun vs => k (.agg vs)
    | _ => none
noncomputable def allT (rs : List AR) (t : Tm) (tr : Tr) (s : Nat) : (List AV → Option RT) → Option RT :=
  List.rec (motive := fun _ => (List AV → Option RT) → Option RT) (fun k => k []) (fun a _ ih k => arT a t tr s fun v => ih fun vs => k (v :: vs)) rs
noncomputable def resT (t : Tm) (tr : Tr) (s : Nat) (rs : List AR) (k : AV → Option RT) : Option RT := allT rs t tr s fun vs => match vs with
  | [v] => k v
  | vs => k (.tuple vs)
inductive ETr where
  | nil
  | bin (l : ETr) (o : Option Ent) (r : ETr)
noncomputable def getE (t : ETr) : Nat → Option Ent :=
  ETr.rec (motive := fun _ => Nat → Option Ent) (fun _ => none)
    (fun _ o _ il ir n => Nat.casesOn (motive := fun _ => Option Ent) n o fun m => Bool.casesOn (motive := fun _ => Option Ent) (Nat.beq (Nat.mod m 2) 0) (ir (Nat.div m 2)) (il (Nat.div m 2))) t
def OkE (P : Program) (f : FuncId) : Option Ent → Prop
  | none => True
  | some e => EntOK P f e
def TabOK (P : Program) : Nat → Nat → ETr → Prop
  | _, _, .nil => True
  | a, b, .bin l o r => OkE P b o ∧ TabOK P (2 * a) (a + b) l ∧ TabOK P (2 * a) (2 * a + b) r
noncomputable def funcT (call' : CallT) (yl' : YlT) (T : ETr) (n : Nat) (f : FuncId) (args : List AV) (tr : Tr) (s : Nat) : Option (AV × Tr × Nat) :=
  match getE T f with
  | some e => yes (Nat.beq (lenR args) e.n) (fT (argsT 0 args) fun t => codeT call' yl' n e.ac t tr s fun ex t tr' s' => match ex with
    | .normal => resT t tr' s' e.rs fun v => some (v, tr', s')
    | .ret => resT t tr' s' e.rs fun v => some (v, tr', s')
    | _ => none) none
  | none => none
end

noncomputable def goT (T : ETr) (n : Nat) : CallT × YlT :=
  Nat.rec (motive := fun _ => CallT × YlT) (fun _ _ _ _ => none, fun _ _ _ _ => none) (fun n ih => (funcT ih.1 ih.2 T n, roundT' ih.1 ih.2 n)) n
noncomputable def isTrue (r : Option (AV × Tr × Nat)) : Bool := match r with
  | some (.bool b, _, _) => b
  | _ => false
end Go.Abs
