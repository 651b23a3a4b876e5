/- The abstract machine, run by recursors, with all that is reckoned written out: for the kernel. -/
import Derived.Test.YteinjjoonmdakaaA24
set_option linter.unusedSimpArgs false
set_option linter.unusedVariables false
namespace Go.Abs
open Go.RowKit
inductive Tr where
  | nil
  | bin (l : Tr) (o : AObj) (r : Tr)
abbrev RT : Type := AV × Tr × Nat
universe u

/-! ### Numbers and lists -/
def fN (n : Nat) (k : Nat → (Option RT)) : (Option RT) := Nat.casesOn (motive := fun _ => (Option RT)) n (k 0) fun m => k (Nat.succ m)
theorem fN_eq (n : Nat) (k : Nat → (Option RT)) : fN n k = k n := by cases n <;> rfl
def fI (i : Int) (k : Int → (Option RT)) : (Option RT) := Int.casesOn (motive := fun _ => (Option RT)) i (fun n => fN n fun n => k (.ofNat n)) fun n => fN n fun n => k (.negSucc n)
theorem fI_eq (i : Int) (k : Int → (Option RT)) : fI i k = k i := by cases i <;> simp only [fI, fN_eq]
def fB (b : Bool) (k : Bool → (Option RT)) : (Option RT) := Bool.casesOn (motive := fun _ => (Option RT)) b (k false) (k true)
theorem fB_eq (b : Bool) (k : Bool → (Option RT)) : fB b k = k b := by cases b <;> rfl
def yes {δ : Type u} (b : Bool) (x y : δ) : δ := Bool.casesOn (motive := fun _ => δ) b y x
theorem yes_eq {δ : Type u} (b : Bool) (x y : δ) : yes b x y = if b = true then x else y := by cases b <;> rfl
def ile : Int → Int → Bool := fun a b => Int.casesOn (motive := fun _ => Bool) a (fun m => Int.casesOn (motive := fun _ => Bool) b (fun n => Nat.ble m n) fun _ => false) fun m => Int.casesOn (motive := fun _ => Bool) b (fun _ => true) fun n => Nat.ble n m
def ieq (a b : Int) : Bool := Int.casesOn (motive := fun _ => Bool) a (fun m => Int.casesOn (motive := fun _ => Bool) b (fun n => Nat.beq m n) fun _ => false) fun m => Int.casesOn (motive := fun _ => Bool) b (fun _ => false) fun n => Nat.beq m n
def kno : IntKind → Nat := fun k => IntKind.casesOn (motive := fun _ => Nat) k 0 1 2 3 4 5 6 7
def keq (a b : IntKind) : Bool := Nat.beq (kno a) (kno b)
theorem ble_dec (a b : Nat) : Nat.ble a b = decide (a ≤ b) := by
  rw [Bool.eq_iff_iff, decide_eq_true_eq, Nat.ble_eq]

section
variable {γ : Type}
noncomputable def lenR (l : List γ) : Nat := List.rec (motive := fun _ => Nat) 0 (fun _ _ ih => Nat.succ ih) l
noncomputable def getR (l : List γ) : Nat → Option γ := List.rec (motive := fun _ => Nat → Option γ) (fun _ => none) (fun a _ ih i => Nat.casesOn (motive := fun _ => Option γ) i (some a) ih) l
noncomputable def dropR (l : List γ) (n : Nat) : List γ := Nat.rec (motive := fun _ => List γ → List γ) (fun l => l) (fun _ ih l => List.casesOn (motive := fun _ => List γ) l [] fun _ l => ih l) n l
noncomputable def takeR (l : List γ) (n : Nat) (k : List γ → (Option RT)) : (Option RT) := Nat.rec (motive := fun _ => List γ → (List γ → (Option RT)) → (Option RT)) (fun _ k => k []) (fun _ ih l k => List.casesOn (motive := fun _ => (Option RT)) l (k []) fun a l => ih l fun r => k (a :: r)) n l k
noncomputable def appR (l m : List γ) (k : List γ → (Option RT)) : (Option RT) := List.rec (motive := fun _ => (List γ → (Option RT)) → (Option RT)) (fun k => k m) (fun a _ ih k => ih fun r => k (a :: r)) l k
noncomputable def setR (l : List γ) (i : Nat) (x : γ) (k : List γ → (Option RT)) : (Option RT) := List.rec (motive := fun _ => Nat → (List γ → (Option RT)) → (Option RT)) (fun _ k => k []) (fun a l ih i k => Nat.casesOn (motive := fun _ => (Option RT)) i (k (x :: l)) fun i => ih i fun r => k (a :: r)) l i k
noncomputable def allR (p : γ → Bool) (l : List γ) : Bool := List.rec (motive := fun _ => Bool) true (fun a _ ih => Bool.casesOn (motive := fun _ => Bool) (p a) false ih) l
noncomputable def memR (n : Nat) (l : List Nat) : Bool := List.rec (motive := fun _ => Bool) false (fun a _ ih => Bool.casesOn (motive := fun _ => Bool) (Nat.beq n a) ih true) l
end

/-! ### Values written out -/
noncomputable def fV (v : AV) : (AV → (Option RT)) → (Option RT) :=
  AV.rec (motive_1 := fun _ => (AV → (Option RT)) → (Option RT)) (motive_2 := fun _ => (List AV → (Option RT)) → (Option RT))
    (fun b k => fB b fun b => k (.bool b)) (fun q n k => fI n fun n => k (.int q n)) (fun s k => k (.str s)) (fun i o k => fN i fun i => fN o fun o => k (.ptr i o)) (fun k => k .nil)
    (fun i o l s x k => fN i fun i => fN o fun o => fN l fun l => fN s fun s => fB x fun x => k (.slice i o l s x)) (fun k => k .nilslice) (fun i k => fN i fun i => k (.map i)) (fun k => k .nilmap)
    (fun f _ _ ia ib k => ia fun a => ib fun b => k (.fn f a b)) (fun k => k .nilfn) (fun i k => fN i fun i => k (.yield i)) (fun t _ ih k => ih fun v => k (.iface t v)) (fun k => k .niliface)
    (fun _ ih k => ih fun cs => k (.agg cs)) (fun _ ih k => ih fun cs => k (.tuple cs)) (fun k => k .junk)
    (fun k => k []) (fun _ _ iv il k => iv fun v => il fun l => k (v :: l)) v
noncomputable def fL (l : List AV) : (List AV → (Option RT)) → (Option RT) := List.rec (motive := fun _ => (List AV → (Option RT)) → (Option RT)) (fun k => k []) (fun v _ ih k => fV v fun v => ih fun l => k (v :: l)) l
mutual
theorem fV_eq : ∀ (v : AV) (k : AV → (Option RT)), fV v k = k v
  | .bool b, k => fB_eq b fun b => k (.bool b)
  | .int q n, k => fI_eq n fun n => k (.int q n)
  | .ptr i o, k => (fN_eq i fun i => fN o fun o => k (.ptr i o)).trans (fN_eq o fun o => k (.ptr i o))
  | .slice i o l s x, k => (fN_eq i fun i => fN o fun o => fN l fun l => fN s fun s => fB x fun x => k (.slice i o l s x)).trans ((fN_eq o fun o => fN l fun l => fN s fun s => fB x fun x => k (.slice i o l s x)).trans
      ((fN_eq l fun l => fN s fun s => fB x fun x => k (.slice i o l s x)).trans ((fN_eq s fun s => fB x fun x => k (.slice i o l s x)).trans (fB_eq x fun x => k (.slice i o l s x)))))
  | .map i, k => fN_eq i fun i => k (.map i)
  | .yield i, k => fN_eq i fun i => k (.yield i)
  | .fn f a b, k => (fL'_eq a fun a => _).trans (fL'_eq b fun b => k (.fn f a b))
  | .iface t v, k => fV_eq v fun v => k (.iface t v)
  | .agg cs, k => fL'_eq cs fun cs => k (.agg cs)
  | .tuple cs, k => fL'_eq cs fun cs => k (.tuple cs)
  | .str _, _ | .nil, _ | .nilslice, _ | .nilmap, _ | .nilfn, _ | .niliface, _ | .junk, _ => rfl
theorem fL'_eq : ∀ (v : List AV) (k : List AV → (Option RT)), (AV.rec_1 (motive_1 := fun _ => (AV → (Option RT)) → (Option RT)) (motive_2 := fun _ => (List AV → (Option RT)) → (Option RT))
    (fun b k => fB b fun b => k (.bool b)) (fun q n k => fI n fun n => k (.int q n)) (fun s k => k (.str s)) (fun i o k => fN i fun i => fN o fun o => k (.ptr i o)) (fun k => k .nil)
    (fun i o l s x k => fN i fun i => fN o fun o => fN l fun l => fN s fun s => fB x fun x => k (.slice i o l s x)) (fun k => k .nilslice) (fun i k => fN i fun i => k (.map i)) (fun k => k .nilmap)
    (fun f _ _ ia ib k => ia fun a => ib fun b => k (.fn f a b)) (fun k => k .nilfn) (fun i k => fN i fun i => k (.yield i)) (fun t _ ih k => ih fun v => k (.iface t v)) (fun k => k .niliface)
    (fun _ ih k => ih fun cs => k (.agg cs)) (fun _ ih k => ih fun cs => k (.tuple cs)) (fun k => k .junk)
    (fun k => k []) (fun _ _ iv il k => iv fun v => il fun l => k (v :: l)) v) k = k v
  | [], _ => rfl
  | v :: vs, k => (fV_eq v fun v => _).trans (fL'_eq vs fun l => k (v :: l))
end
def wV (v : AV) (k : AV → (Option RT)) : (Option RT) := AV.casesOn (motive_1 := fun _ => (Option RT)) v (fun b => k (.bool b)) (fun q n => k (.int q n)) (fun s => k (.str s)) (fun i o => k (.ptr i o)) (k .nil)
  (fun i o l s x => k (.slice i o l s x)) (k .nilslice) (fun i => k (.map i)) (k .nilmap) (fun f a b => k (.fn f a b)) (k .nilfn) (fun i => k (.yield i)) (fun t v => k (.iface t v)) (k .niliface)
  (fun cs => k (.agg cs)) (fun cs => k (.tuple cs)) (k .junk)
noncomputable def lkR (t : List (Nat × AV)) (i : Nat) : AV := List.rec (motive := fun _ => AV) .junk (fun p _ ih => Bool.casesOn (motive := fun _ => AV) (Nat.beq p.1 i) ih p.2) t
noncomputable def evR (t : List (Nat × AV)) (x : AOpd) : AV := AOpd.casesOn (motive := fun _ => AV) x (fun i => lkR t i) fun v => v
noncomputable def evsR (t : List (Nat × AV)) (xs : List AOpd) : (List AV → (Option RT)) → (Option RT) := List.rec (motive := fun _ => (List AV → (Option RT)) → (Option RT)) (fun k => k []) (fun x _ ih k => wV (evR t x) fun v => ih fun r => k (v :: r)) xs
noncomputable def pruneR (t : List (Nat × AV)) (ks : List Nat) : (List (Nat × AV) → (Option RT)) → (Option RT) := List.rec (motive := fun _ => (List (Nat × AV) → (Option RT)) → (Option RT)) (fun k => k []) (fun i _ ih k => wV (lkR t i) fun v => ih fun r => k ((i, v) :: r)) ks
noncomputable def fT (t : List (Nat × AV)) : (List (Nat × AV) → (Option RT)) → (Option RT) := List.rec (motive := fun _ => (List (Nat × AV) → (Option RT)) → (Option RT)) (fun k => k []) (fun p _ ih k => fN p.1 fun i => wV p.2 fun v => ih fun r => k ((i, v) :: r)) t
/-! ### Operations -/
section

noncomputable def cellsR (v : AV) (k : List AV → Option RT) : Option RT := match v with
  | .agg cs => k cs
  | .junk => none
  | v => k [v]
noncomputable def spliceR (cs : List AV) (off : Nat) (vs : List AV) (k : List AV → (Option RT)) : (Option RT) := takeR cs off fun a => appR vs (dropR cs (off + lenR vs)) fun r => appR a r k
noncomputable def fillR (t : List (Nat × AV)) (ps : List (Nat × Nat × AOpd)) : List AV → (List AV → Option RT) → Option RT :=
  List.rec (motive := fun _ => List AV → (List AV → Option RT) → Option RT) (fun cs k => k cs)
    (fun p _ ih cs k => cellsR (evR t p.2.2) fun vs => yes (Nat.beq (lenR vs) p.2.1) (yes (Nat.ble (p.1 + p.2.1) (lenR cs)) (spliceR cs p.1 vs fun cs => ih cs k) none) none) ps
noncomputable def binR (op : BinOp) (x y : AV) (k : AV → Option RT) : Option RT := match x, y with
  | .int q a, .int q' b => yes (keq q q')
    (match op with
    | .add => fI (q.wrap (a + b)) fun n => k (.int q n)
    | .sub => fI (q.wrap (a - b)) fun n => k (.int q n)
    | .mul => fI (q.wrap (a * b)) fun n => k (.int q n)
    | .eql => fB (ieq a b) fun r => k (.bool r)
    | .neq => fB (!ieq a b) fun r => k (.bool r)
    | .lss => fB (!ile b a) fun r => k (.bool r)
    | .leq => fB (ile a b) fun r => k (.bool r)
    | .gtr => fB (!ile a b) fun r => k (.bool r)
    | .geq => fB (ile b a) fun r => k (.bool r)
    | .and => fI (q.wrap ((BitVec.ofInt q.bits a &&& BitVec.ofInt q.bits b).toNat : Int)) fun n => k (.int q n)
    | .or => fI (q.wrap ((BitVec.ofInt q.bits a ||| BitVec.ofInt q.bits b).toNat : Int)) fun n => k (.int q n)
    | .xor => fI (q.wrap ((BitVec.ofInt q.bits a ^^^ BitVec.ofInt q.bits b).toNat : Int)) fun n => k (.int q n)
    | .andNot => fI (q.wrap ((BitVec.ofInt q.bits a &&& ~~~BitVec.ofInt q.bits b).toNat : Int)) fun n => k (.int q n)
    | _ => none) none
  | x, y => match binA op x y with
    | some v => fV v k
    | none => none
/-! ### Keys and maps -/
def eqCellR (c : CK) (x y : AV) (k : Bool → Option RT) : Option RT := match c, x, y with
  | .int, .int q a, .int q' b => yes (keq q q') (fB (ieq a b) k) none
  | .bool, .bool a, .bool b => fB (a == b) k
  | c, x, y => match eqCell c x y with
    | some r => fB r k
    | none => none
def opt {δ : Type u} (o : Option δ) (k : δ → Option RT) : Option RT := match o with
  | some a => k a
  | none => none
noncomputable def eqRowR (cs : List CK) : List AV → List AV → (Bool → Option RT) → Option RT :=
  List.rec (motive := fun _ => List AV → List AV → (Bool → Option RT) → Option RT)
    (fun x y k => match x, y with
      | [], [] => k true
      | _, _ => none)
    (fun c _ ih x y k => match x, y with
      | a :: x, b :: y => eqCellR c a b fun r => ih x y fun t => fB (r && t) k
      | _, _ => none) cs
noncomputable def keyR (kk : KK) (x y : AV) (k : Bool → Option RT) : Option RT := match kk with
  | .one c => eqCellR c x y k
  | .row cs => match x with
    | .agg x => match y with
      | .agg y => eqRowR cs x y k
      | _ => none
    | _ => none
noncomputable def findR (kk : KK) (x : AV) (es : List (AV × AV)) : Nat → (Option Nat → Option RT) → Option RT :=
  List.rec (motive := fun _ => Nat → (Option Nat → Option RT) → Option RT) (fun _ k => k none)
    (fun p _ ih n k => keyR kk x p.1 fun r => yes r (k (some n)) (ih (Nat.succ n) k)) es
noncomputable def eraseR {γ : Type} (l : List γ) (i : Nat) (k : List γ → (Option RT)) : (Option RT) := List.rec (motive := fun _ => Nat → (List γ → (Option RT)) → (Option RT)) (fun _ k => k []) (fun a l ih i k => Nat.casesOn (motive := fun _ => (Option RT)) i (k l) fun i => ih i fun r => k (a :: r)) l i k
noncomputable def repR (n : Nat) (zs : List AV) (k : List AV → (Option RT)) : (Option RT) := Nat.rec (motive := fun _ => (List AV → (Option RT)) → (Option RT)) (fun k => k []) (fun _ ih k => ih fun r => appR zs r k) n k
end
end Go.Abs
