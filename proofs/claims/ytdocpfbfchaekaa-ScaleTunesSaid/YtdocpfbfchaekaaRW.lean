/- Several texts as one. -/
import Derived.Test.YtdocpfbfchaekaaA44
set_option linter.unusedSimpArgs false
set_option linter.unusedVariables false
/- Runs of numbers of which something is so. -/
namespace Go.Proofs
def ruS (p:Nat→Bool):Nat→List (Nat × Nat) × Option Nat
  | 0=>([],none)
  | i+1=>match p i,(ruS p i).2 with
    | true,none=>((ruS p i).1,some i)
    | true,some s=>((ruS p i).1,some s)
    | false,none=>((ruS p i).1,none)
    | false,some s=>((ruS p i).1++[(s,i-1)],none)
structure RuI (p:Nat→Bool) (i:Nat) (l:List (Nat × Nat)) (o:Option Nat):Prop where
  le:∀ x∈l,x.1≤x.2∧x.2+1<i∧p (x.2+1)=false
  all:∀ j,j<i→(p j=true↔(∃ x∈l,x.1≤j∧j≤x.2)∨∃ s,o=some s∧s≤j)
  op:∀ s,o=some s→s<i∧(∀ j,s≤j→j<i→p j=true)∧∀ x∈l,x.2+1<s
  inc:l.Pairwise fun x y=>x.2+1<y.1
structure Cano (l:List (Int × Int)):Prop where
  le:∀ x∈l,x.1≤x.2
  inc:l.Pairwise fun x y=>x.2+1<y.1
def inL (l:List (Int × Int)) (n:Int):Prop:=∃ x∈l,x.1≤n∧n≤x.2
theorem Cano.nil:Cano []:=⟨by simp,by simp⟩
theorem Cano.tail {x:Int × Int} {l:List (Int × Int)} (h:Cano (x :: l)):Cano l:=⟨fun y hy=>h.le y (List.mem_cons_of_mem _ hy),(List.pairwise_cons.1 h.inc).2⟩
theorem Cano.head {x:Int × Int} {l:List (Int × Int)} (h:Cano (x :: l)) {n:Int} (hn:inL l n):x.2+1<n:=by
  obtain⟨y,hy,h1,h2⟩:=hn
  have:=(List.pairwise_cons.1 h.inc).1 y hy
  omega
theorem Cano.uniq:∀ {l m:List (Int × Int)},Cano l→Cano m→(∀ n,inL l n↔inL m n)→l=m
  | [],[],_,_,_=>rfl
  | [],y :: m,_,hm,h=>by
    have:=(h y.1).2 ⟨y,by simp,Int.le_refl _,hm.le y (by simp)⟩
    obtain⟨x,hx,_⟩:=this
    cases hx
  | x :: l,[],hl,_,h=>by
    have:=(h x.1).1 ⟨x,by simp,Int.le_refl _,hl.le x (by simp)⟩
    obtain⟨y,hy,_⟩:=this
    cases hy
  | x :: l,y :: m,hl,hm,h=>by
    have lx:=hl.le x (by simp)
    have ly:=hm.le y (by simp)
    have inx:∀ n,inL (x :: l) n↔(x.1≤n∧n≤x.2)∨inL l n:=fun n=>by simp [inL]
    have iny:∀ n,inL (y :: m) n↔(y.1≤n∧n≤y.2)∨inL m n:=fun n=>by simp [inL]
    have h':∀ n,((x.1≤n∧n≤x.2)∨inL l n)↔((y.1≤n∧n≤y.2)∨inL m n):=fun n=>by rw [← inx,← iny];exact h n
    have a1:x.1=y.1:=by
      have b1:y.1≤x.1:=by
        rcases (h' x.1).1 (.inl ⟨Int.le_refl _,lx⟩) with c|c
        · exact c.1
        · have:=hm.head c;omega
      have b2:x.1≤y.1:=by
        rcases (h' y.1).2 (.inl ⟨Int.le_refl _,ly⟩) with c|c
        · exact c.1
        · have:=hl.head c;omega
      omega
    have a2:x.2=y.2:=by
      have b1:x.2≤y.2:=by
        refine Int.not_lt.1 fun hlt=>?_
        rcases (h' (y.2+1)).1 (.inl ⟨by omega,by omega⟩) with c|c
        · omega
        · have:=hm.head c;omega
      have b2:y.2≤x.2:=by
        refine Int.not_lt.1 fun hlt=>?_
        rcases (h' (x.2+1)).2 (.inl ⟨by omega,by omega⟩) with c|c
        · omega
        · have:=hl.head c;omega
      omega
    have e:x=y:=Prod.ext a1 a2
    subst e
    rw [Cano.uniq hl.tail hm.tail]
    intro n
    constructor
    · intro hn
      rcases (h' n).1 (.inr hn) with c|c
      · have:=hl.head hn;omega
      · exact c
    · intro hn
      rcases (h' n).2 (.inr hn) with c|c
      · have:=hm.head hn;omega
      · exact c
def ruL (p:Nat→Bool) (n:Nat) (a:Int):List (Int × Int):=(ruS p n).1.map fun x=>(a+(x.1:Int),a+(x.2:Int))
/-! ### How many spans are open -/
def dl:List (Nat × Nat)→Nat→Int
  | [],_=>0
  | x :: P,i=>dl P i+(if i=x.1 then 1 else 0)-(if i=x.2 then 1 else 0)
def cn:List (Nat × Nat)→Nat→Int
  | [],_=>0
  | x :: P,i=>cn P i+(if x.1≤i∧i<x.2 then 1 else 0)
end Go.Proofs
/- Sums of numbers of spans,as spans. -/
namespace Go.Proofs
def gP (A:List (Int × Int)) (i:Nat):Int × Int:=A.getD i (0,0)
theorem gP_eq {A:List (Int × Int)} {i:Nat} (h:i<A.length):gP A i=A[i]:=by simp [gP,h]
def mnL (A:List (Int × Int)):Nat→Int
  | 0=>(gP A 0).1
  | i+1=>min (mnL A i) (gP A i).1
def mxL (A:List (Int × Int)):Nat→Int
  | 0=>(gP A 0).2
  | i+1=>max (mxL A i) (gP A i).2
def toF (A B:List (Int × Int)):Int:=mnL A A.length+(gP B 0).1
def toT (A B:List (Int × Int)):Int:=mxL A A.length+(gP B (B.length-1)).2
def toN (A B:List (Int × Int)):Nat:=(toT A B-toF A B+2).toNat
def prA (f:Int) (B:List (Int × Int)) (a:Int × Int):List (Nat × Nat):=B.map fun b=>((a.1+b.1-f).toNat,(a.2+b.2+1-f).toNat)
def prs (f:Int) (A B:List (Int × Int)):List (Nat × Nat):=A.flatMap (prA f B)
def toP (A B:List (Int × Int)) (i:Nat):Bool:=decide (0<cn (prs (toF A B) A B) i)
def togL (A B:List (Int × Int)):List (Int × Int):=if A=[]∨B=[] then [] else ruL (toP A B) (toN A B) (toF A B)
theorem Cano.lt {B:List (Int × Int)} (h:Cano B) {i j:Nat} (hij:i<j) (hj:j<B.length):(gP B i).2+1<(gP B j).1:=by
  rw [gP_eq (by omega),gP_eq hj]
  exact List.pairwise_iff_getElem.1 h.inc i j (by omega) hj hij
def PP (f:Int) (A B:List (Int × Int)) (k m:Nat):List (Nat × Nat):=prs f (A.take k) B++(prA f B (gP A k)).take m
end Go.Proofs
