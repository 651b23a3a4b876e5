/- The abstract machine, run for the kernel: a closed call. -/
import Derived.Test.YtdocpfbfchaekaaGreatA29
noncomputable section
namespace Go.Abs
open Go.RowKit
section
variable {call':CallT} {yl':YlT} {call:FuncId→List AV→Heap→Option (AV × Heap)} {yl:Nat→List AV→Heap→Option (AV × Heap)}
variable (call' yl') in
def roundT' (n:Nat) (id:Nat) (args:List AV) (tr:Tr) (s:Nat):Option (AV × Tr × Nat) :=
  match obT tr s id with
  | some (.other (.loop t ps a b .ready))=>yes (Nat.beq (lenR args) (lenR ps)) (fT (roundT ps args t) fun t=>codeT call' yl' n a t tr s fun e t1 tr1 s1=>match e with
    | .normal=>match obT tr1 s1 id with
      | some (.other (.loop t0 ps1 a1 b1 .ready))=>setT tr1 id (.other (.loop t0 ps1 a1 b1 .busy)) fun tr1=>codeT call' yl' n b t1 tr1 s1 fun e _ tr2 s2=>match obT tr2 s2 id with
          | some (.other (.loop t2 ps2 a2 b2 .busy))=>match e with
            | .normal=>setT tr2 id (.other (.loop t2 ps2 a2 b2 .ready)) fun tr=>some (.bool true,tr,s2)
            | .ret=>setT tr2 id (.other (.loop t2 ps2 a2 b2 (.done .ret))) fun tr=>some (.bool false,tr,s2)
            | .exit k=>setT tr2 id (.other (.loop t2 ps2 a2 b2 (.done (.exit k)))) fun tr=>some (.bool false,tr,s2)
            | _=>none
          | _=>none
      | _=>none
    | _=>none) none
  | _=>none
theorem roundT'_ok (hc:CallS call' call) (hy:YlS yl' yl) (n:Nat):YlS (roundT' call' yl' n) (runRound call yl n):=by
  intro id args tr s v tr' s' h
  unfold roundT' at h
  unfold runRound
  rw [obT_eq] at h
  split at h
  · rename_i t ps a b hob
    simp only [hob]
    obtain⟨g1,h⟩:=yes_some h
    simp only [lenR_eq,Nat.beq_eq] at g1
    rw [fT_eq] at h
    obtain⟨e,t1,tr1,s1,h1,h2⟩:=codeT_some hc hy n a _ _ _ _ _ h
    simp only [g1,if_true,h2]
    cases e with
    | normal =>
      simp only [obT_eq] at h1 ⊢
      split at h1
      · rename_i t0 ps1 a1 b1 hob1
        simp only [hob1]
        obtain⟨tr2,h3,h4⟩:=setT_some h1
        obtain⟨e2,t3,tr3,s3,h5,h6⟩:=codeT_some hc hy n b _ _ _ _ _ h3
        rw [← ab_set h4,h6]
        simp only [obT_eq] at h5 ⊢
        split at h5
        · rename_i t2 ps2 a2 b2 hob2
          simp only [hob2]
          cases e2 with
          | normal =>
            obtain⟨tr4,h7,h8⟩:=setT_some h5
            simp only [Option.some.injEq,Prod.mk.injEq] at h7
            obtain⟨rfl,rfl,rfl⟩:=h7
            simp only [ab_set h8]
          | ret =>
            obtain⟨tr4,h7,h8⟩:=setT_some h5
            simp only [Option.some.injEq,Prod.mk.injEq] at h7
            obtain⟨rfl,rfl,rfl⟩:=h7
            simp only [ab_set h8]
          | exit k =>
            obtain⟨tr4,h7,h8⟩:=setT_some h5
            simp only [Option.some.injEq,Prod.mk.injEq] at h7
            obtain⟨rfl,rfl,rfl⟩:=h7
            simp only [ab_set h8]
          | _=>cases h5
        · cases h5
      · cases h1
    | _=>cases h1
  · cases h
def arT (a:AR) (t:Tm) (tr:Tr) (s:Nat) (k:AV→Option RT):Option RT:=match a with
  | .t n=>wV (lkR t n) k
  | .cell1 n=>match lkR t n with
    | .ptr id off=>rd1T tr s id off k
    | _=>none
  | .cellN n m=>match lkR t n with
    | .ptr id off=>rdT tr s id off m fun vs=>k (.agg vs)
    | _=>none
theorem arT_some {a:AR} {t:Tm} {tr:Tr} {s:Nat} {k:AV→Option RT} {r:RT} (h:arT a t tr s k=some r):∃ v,a.get ⟨t,ab tr s⟩=some v∧k v=some r:=by
  cases a with
  | t n=>simp only [arT,wV_eq,lkR_eq] at h;exact⟨_,rfl,h⟩
  | cell1 n =>
    simp only [arT,lkR_eq,rd1T_eq] at h
    simp only [AR.get]
    split at h
    · rename_i id off hp
      split at h
      · rename_i v hv;exact⟨v,by simp only [hp,hv],h⟩
      · cases h
    · cases h
  | cellN n m =>
    simp only [arT,lkR_eq,rdT_eq] at h
    simp only [AR.get]
    split at h
    · rename_i id off hp
      split at h
      · rename_i v hv;exact⟨_,by simp only [hp,hv];rfl,h⟩
      · cases h
    · cases h
def allT (rs:List AR) (t:Tm) (tr:Tr) (s:Nat):(List AV→Option RT)→Option RT :=
  List.rec (motive:=fun _=>(List AV→Option RT)→Option RT) (fun k=>k []) (fun a _ ih k=>arT a t tr s fun v=>ih fun vs=>k (v :: vs)) rs
theorem allT_some {t:Tm} {tr:Tr} {s:Nat} {r:RT}:∀ (rs:List AR) (k:List AV→Option RT),allT rs t tr s k=some r→∃ vs,getAll ⟨t,ab tr s⟩ rs=some vs∧k vs=some r
  | [],k,h=>⟨[],rfl,h⟩
  | a :: rs,k,h=>by
    have h:(arT a t tr s fun v=>allT rs t tr s fun vs=>k (v :: vs))=some r:=h
    obtain⟨v,h1,h2⟩:=arT_some h
    obtain⟨vs,h3,h4⟩:=allT_some rs _ h2
    exact⟨v :: vs,by simp only [getAll,h1,h3],h4⟩
def resT (t:Tm) (tr:Tr) (s:Nat) (rs:List AR) (k:AV→Option RT):Option RT:=allT rs t tr s fun vs=>match vs with
  | [v]=>k v
  | vs=>k (.tuple vs)
theorem resT_some {t:Tm} {tr:Tr} {s:Nat} {rs:List AR} {k:AV→Option RT} {r:RT} (h:resT t tr s rs k=some r):∃ v,resV ⟨t,ab tr s⟩ rs=some v∧k v=some r:=by
  obtain⟨vs,h1,h2⟩:=allT_some _ _ h
  unfold resV
  rw [h1]
  rcases vs with _|⟨v,_|⟨w,vs⟩⟩ <;> exact⟨_,rfl,h2⟩
inductive ETr where
  | nil
  | bin (l:ETr) (o:Option Ent) (r:ETr)
def getE (t:ETr):Nat→Option Ent :=
  ETr.rec (motive:=fun _=>Nat→Option Ent) (fun _=>none)
    (fun _ o _ il ir n=>Nat.casesOn (motive:=fun _=>Option Ent) n o fun m=>Bool.casesOn (motive:=fun _=>Option Ent) (Nat.beq (Nat.mod m 2) 0) (ir (Nat.div m 2)) (il (Nat.div m 2))) t
def OkE (P:Program) (f:FuncId):Option Ent→Prop
  | none=>True
  | some e=>EntOK P f e
def TabOK (P:Program):Nat→Nat→ETr→Prop
  | _,_,.nil=>True
  | a,b,.bin l o r=>OkE P b o∧TabOK P (2 * a) (a+b) l∧TabOK P (2 * a) (2 * a+b) r
theorem tab_ok {P:Program}:∀ {t:ETr} {a b:Nat},TabOK P a b t→∀ (n:Nat) (e:Ent),getE t n=some e→EntOK P (a * n+b) e
  | .nil,_,_,_,n,e,h=>by cases h
  | .bin l o r,a,b,⟨h1,h2,h3⟩,n,e,h=>by
    cases n with
    | zero =>
      have h:o=some e:=h
      subst h
      simpa [OkE] using h1
    | succ m =>
      have h:Bool.casesOn (motive:=fun _=>Option Ent) (Nat.beq (m % 2) 0) (getE r (m / 2)) (getE l (m / 2))=some e:=h
      rw [beq_dec] at h
      by_cases hm:m % 2=0
      · simp only [hm,decide_true] at h
        have:=tab_ok h2 _ _ h
        have e1:2 * a * (m / 2)+(a+b)=a * (m+1)+b:=by
          have:m=2 * (m / 2):=by omega
          conv=>rhs;rw [this]
          rw [Nat.mul_add,Nat.mul_one,Nat.mul_comm 2 a,Nat.mul_assoc];omega
        rw [e1] at this;exact this
      · simp only [hm,decide_false] at h
        have:=tab_ok h3 _ _ h
        have e1:2 * a * (m / 2)+(2 * a+b)=a * (m+1)+b:=by
          have:m=2 * (m / 2)+1:=by omega
          conv=>rhs;rw [this]
          rw [Nat.mul_add,Nat.mul_one,Nat.mul_add,Nat.mul_comm 2 a,Nat.mul_assoc];omega
        rw [e1] at this;exact this
def funcT (call':CallT) (yl':YlT) (T:ETr) (n:Nat) (f:FuncId) (args:List AV) (tr:Tr) (s:Nat):Option (AV × Tr × Nat) :=
  match getE T f with
  | some e=>yes (Nat.beq (lenR args) e.n) (fT (argsT 0 args) fun t=>codeT call' yl' n e.ac t tr s fun ex t tr' s'=>match ex with
    | .normal=>resT t tr' s' e.rs fun v=>some (v,tr',s')
    | .ret=>resT t tr' s' e.rs fun v=>some (v,tr',s')
    | _=>none) none
  | none=>none
theorem funcT_ok {T:ETr} (hc:CallS call' call) (hy:YlS yl' yl) (n:Nat):CallS (funcT call' yl' T n) (runF (getE T) call yl n):=by
  intro f args tr s v tr' s' h
  unfold funcT at h
  unfold runF
  cases hT:getE T f with
  | none=>rw [hT] at h;cases h
  | some e =>
    rw [hT] at h
    obtain⟨g1,h⟩:=yes_some h
    simp only [lenR_eq,Nat.beq_eq] at g1
    rw [fT_eq] at h
    obtain⟨ex,t1,tr1,s1,h1,h2⟩:=codeT_some hc hy n e.ac _ _ _ _ _ h
    simp only [g1,if_true,h2]
    cases ex with
    | normal =>
      obtain⟨v1,h3,h4⟩:=resT_some h1
      simp only [Option.some.injEq,Prod.mk.injEq] at h4
      obtain⟨rfl,rfl,rfl⟩:=h4
      simp only [h3]
    | ret =>
      obtain⟨v1,h3,h4⟩:=resT_some h1
      simp only [Option.some.injEq,Prod.mk.injEq] at h4
      obtain⟨rfl,rfl,rfl⟩:=h4
      simp only [h3]
    | _=>cases h1
end
def goT (T:ETr) (n:Nat):CallT × YlT :=
  Nat.rec (motive:=fun _=>CallT × YlT) (fun _ _ _ _=>none,fun _ _ _ _=>none) (fun n ih=>(funcT ih.1 ih.2 T n,roundT' ih.1 ih.2 n)) n
theorem goT_ok {T:ETr}:∀ (n:Nat),CallS (goT T n).1 (run (getE T) n).1∧YlS (goT T n).2 (run (getE T) n).2
  | 0=>⟨fun f args tr s v tr' s' h=>(by cases h),fun f args tr s v tr' s' h=>(by cases h)⟩
  | n+1=>⟨funcT_ok (goT_ok n).1 (goT_ok n).2 n,roundT'_ok (goT_ok n).1 (goT_ok n).2 n⟩
def isTrue (r:Option (AV × Tr × Nat)):Bool:=match r with
  | some (.bool b,_,_)=>b
  | _=>false
end Go.Abs
end
