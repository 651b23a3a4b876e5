/- Several texts as one. -/
import Derived.Test.YtdocpfbfchaekaaGreatA44
set_option linter.unusedSimpArgs false
set_option linter.unusedVariables false
/- Runs of numbers of which something is so. -/
namespace Go.Proofs
def ruS (p:Nat→Bool):Nat→List (Nat × Nat) × Option Nat
  | 0=>([],none)
  | i+1=>match p i,(ruS p i).2 with
    | true,none=>((ruS p i).1,some i)
    | true,some s=>((ruS p i).1,some s)
    | false,none=>((ruS p i).1,none)
    | false,some s=>((ruS p i).1++[(s,i-1)],none)
theorem ruS_open (p:Nat→Bool):∀ i,(ruS p i).2.isSome=true↔∃ j,i=j+1∧p j=true
  | 0=>by simp [ruS]
  | i+1=>by
    have e:((ruS p (i+1)).2.isSome=true)↔p i=true:=by
      simp only [ruS]
      cases h:p i <;> cases h2:(ruS p i).2 <;> simp [h]
    rw [e]
    constructor
    · intro h;exact⟨i,rfl,h⟩
    · rintro⟨j,h1,h2⟩
      have:j=i:=by omega
      subst this;exact h2
structure RuI (p:Nat→Bool) (i:Nat) (l:List (Nat × Nat)) (o:Option Nat):Prop where
  le:∀ x∈l,x.1≤x.2∧x.2+1<i∧p (x.2+1)=false
  all:∀ j,j<i→(p j=true↔(∃ x∈l,x.1≤j∧j≤x.2)∨∃ s,o=some s∧s≤j)
  op:∀ s,o=some s→s<i∧(∀ j,s≤j→j<i→p j=true)∧∀ x∈l,x.2+1<s
  inc:l.Pairwise fun x y=>x.2+1<y.1
theorem ruS_inv (p:Nat→Bool):∀ i,RuI p i (ruS p i).1 (ruS p i).2
  | 0=>⟨by simp [ruS],by simp,by simp [ruS],by simp [ruS]⟩
  | i+1=>by
    have ih:=ruS_inv p i
    simp only [ruS]
    obtain⟨h1,h2,h3,h4⟩:=ih
    cases hp:p i <;> cases ho:(ruS p i).2 <;> simp only [ho] at h1 h2 h3 h4 ⊢
    · refine⟨fun x hx=>?_,fun j hj=>?_,by simp,h4⟩
      · have:=h1 x hx;exact⟨this.1,by omega,this.2.2⟩
      · rcases Nat.lt_or_ge j i with h|h
        · exact h2 j h
        · have:j=i:=by omega
          subst this
          rw [hp]
          constructor
          · intro h;cases h
          · rintro (⟨x,hx,h5,h6⟩|⟨s,hs,_⟩)
            · have:=(h1 x hx).2.1;omega
            · cases hs
    · rename_i s
      have hs:=h3 s rfl
      refine⟨fun x hx=>?_,fun j hj=>?_,by simp,?_⟩
      · rcases List.mem_append.1 hx with hx|hx
        · have:=h1 x hx;exact⟨this.1,by omega,this.2.2⟩
        · rw [List.mem_singleton] at hx;subst hx
          dsimp only
          refine⟨by omega,by omega,?_⟩
          rw [show i-1+1=i by omega];exact hp
      · rcases Nat.lt_or_ge j i with h|h
        · rw [h2 j h]
          constructor
          · rintro (⟨x,hx,h5⟩|⟨s',hs',h6⟩)
            · exact .inl ⟨x,List.mem_append_left _ hx,h5⟩
            · cases hs';exact .inl ⟨(s,i-1),List.mem_append_right _ (by simp),h6,by dsimp only;omega⟩
          · rintro (⟨x,hx,h5⟩|⟨s',hs',h6⟩)
            · rcases List.mem_append.1 hx with hx|hx
              · exact .inl ⟨x,hx,h5⟩
              · rw [List.mem_singleton] at hx;subst hx
                exact .inr ⟨s,rfl,h5.1⟩
            · cases hs'
        · have:j=i:=by omega
          subst this
          rw [hp]
          constructor
          · intro h;cases h
          · rintro (⟨x,hx,h5,h6⟩|⟨s,hs,_⟩)
            · rcases List.mem_append.1 hx with hx|hx
              · have:=(h1 x hx).2.1;omega
              · rw [List.mem_singleton] at hx;subst hx;dsimp only at h6;omega
            · cases hs
      · rw [List.pairwise_append]
        refine⟨h4,by simp,fun x hx y hy=>?_⟩
        rw [List.mem_singleton] at hy;subst hy
        exact hs.2.2 x hx
    · refine⟨fun x hx=>?_,fun j hj=>?_,fun s hs=>?_,h4⟩
      · have:=h1 x hx;exact⟨this.1,by omega,this.2.2⟩
      · rcases Nat.lt_or_ge j i with h|h
        · rw [h2 j h]
          constructor
          · rintro (h5|⟨s,hs,_⟩)
            · exact .inl h5
            · cases hs
          · rintro (h5|⟨s,hs,h6⟩)
            · exact .inl h5
            · cases hs;omega
        · have:j=i:=by omega
          subst this
          rw [hp]
          exact⟨fun _=>.inr ⟨j,rfl,Nat.le_refl _⟩,fun _=>rfl⟩
      · cases hs
        refine ⟨by omega, fun j h5 h6 => by have : j = i := by omega
                                            subst this;exact hp,fun x hx=>by have:=h1 x hx;omega⟩
    · rename_i s
      have hs:=h3 s rfl
      refine⟨fun x hx=>?_,fun j hj=>?_,fun s' hs'=>?_,h4⟩
      · have:=h1 x hx;exact⟨this.1,by omega,this.2.2⟩
      · rcases Nat.lt_or_ge j i with h|h
        · exact h2 j h
        · have:j=i:=by omega
          subst this
          rw [hp]
          exact⟨fun _=>.inr ⟨s,rfl,by omega⟩,fun _=>rfl⟩
      · cases hs'
        refine⟨by omega,fun j h5 h6=>?_,hs.2.2⟩
        rcases Nat.lt_or_ge j i with h|h
        · exact hs.2.1 j h5 h
        · have:j=i:=by omega
          subst this;exact hp
structure Cano (l:List (Int × Int)):Prop where
  le:∀ x∈l,x.1≤x.2
  inc:l.Pairwise fun x y=>x.2+1<y.1
def inL (l:List (Int × Int)) (n:Int):Prop:=∃ x∈l,x.1≤n∧n≤x.2
theorem Cano.nil:Cano []:=⟨by simp,by simp⟩
theorem Cano.tail {x:Int × Int} {l:List (Int × Int)} (h:Cano (x :: l)):Cano l:=⟨fun y hy=>h.le y (List.mem_cons_of_mem _ hy),(List.pairwise_cons.1 h.inc).2⟩
theorem Cano.head {x:Int × Int} {l:List (Int × Int)} (h:Cano (x :: l)) {n:Int} (hn:inL l n):x.2+1<n:=by
  obtain⟨y,hy,h1,h2⟩:=hn
  have:=(List.pairwise_cons.1 h.inc).1 y hy
  omega
theorem Cano.uniq:∀ {l m:List (Int × Int)},Cano l→Cano m→(∀ n,inL l n↔inL m n)→l=m
  | [],[],_,_,_=>rfl
  | [],y :: m,_,hm,h=>by
    have:=(h y.1).2 ⟨y,by simp,Int.le_refl _,hm.le y (by simp)⟩
    obtain⟨x,hx,_⟩:=this
    cases hx
  | x :: l,[],hl,_,h=>by
    have:=(h x.1).1 ⟨x,by simp,Int.le_refl _,hl.le x (by simp)⟩
    obtain⟨y,hy,_⟩:=this
    cases hy
  | x :: l,y :: m,hl,hm,h=>by
    have lx:=hl.le x (by simp)
    have ly:=hm.le y (by simp)
    have inx:∀ n,inL (x :: l) n↔(x.1≤n∧n≤x.2)∨inL l n:=fun n=>by simp [inL]
    have iny:∀ n,inL (y :: m) n↔(y.1≤n∧n≤y.2)∨inL m n:=fun n=>by simp [inL]
    have h':∀ n,((x.1≤n∧n≤x.2)∨inL l n)↔((y.1≤n∧n≤y.2)∨inL m n):=fun n=>by rw [← inx,← iny];exact h n
    have a1:x.1=y.1:=by
      have b1:y.1≤x.1:=by
        rcases (h' x.1).1 (.inl ⟨Int.le_refl _,lx⟩) with c|c
        · exact c.1
        · have:=hm.head c;omega
      have b2:x.1≤y.1:=by
        rcases (h' y.1).2 (.inl ⟨Int.le_refl _,ly⟩) with c|c
        · exact c.1
        · have:=hl.head c;omega
      omega
    have a2:x.2=y.2:=by
      have b1:x.2≤y.2:=by
        refine Int.not_lt.1 fun hlt=>?_
        rcases (h' (y.2+1)).1 (.inl ⟨by omega,by omega⟩) with c|c
        · omega
        · have:=hm.head c;omega
      have b2:y.2≤x.2:=by
        refine Int.not_lt.1 fun hlt=>?_
        rcases (h' (x.2+1)).2 (.inl ⟨by omega,by omega⟩) with c|c
        · omega
        · have:=hl.head c;omega
      omega
    have e:x=y:=Prod.ext a1 a2
    subst e
    rw [Cano.uniq hl.tail hm.tail]
    intro n
    constructor
    · intro hn
      rcases (h' n).1 (.inr hn) with c|c
      · have:=hl.head hn;omega
      · exact c
    · intro hn
      rcases (h' n).2 (.inr hn) with c|c
      · have:=hm.head hn;omega
      · exact c
def ruL (p:Nat→Bool) (n:Nat) (a:Int):List (Int × Int):=(ruS p n).1.map fun x=>(a+(x.1:Int),a+(x.2:Int))
theorem ruL_cano (p:Nat→Bool) (n:Nat) (a:Int):Cano (ruL p n a):=by
  have h:=ruS_inv p n
  constructor
  · intro x hx
    obtain⟨y,hy,rfl⟩:=List.mem_map.1 hx
    have:=(h.le y hy).1
    dsimp only;omega
  · rw [ruL,List.pairwise_map]
    exact h.inc.imp fun {a b} h=>by dsimp only;omega
theorem ruL_in {p:Nat→Bool} {n:Nat} (a:Int) (he:(ruS p n).2=none) (x:Int):inL (ruL p n a) x↔∃ j:Nat,j<n∧x=a+j∧p j=true:=by
  have h:=ruS_inv p n
  rw [he] at h
  constructor
  · rintro⟨z,hz,h1,h2⟩
    obtain⟨y,hy,rfl⟩:=List.mem_map.1 hz
    dsimp only at h1 h2
    have h3:=h.le y hy
    refine⟨(x-a).toNat,by omega,by omega,?_⟩
    exact (h.all _ (by omega)).2 (.inl ⟨y,hy,by omega,by omega⟩)
  · rintro⟨j,hj,rfl,hp⟩
    rcases (h.all j hj).1 hp with⟨y,hy,h1,h2⟩|⟨s,hs,_⟩
    · exact⟨_,List.mem_map.2 ⟨y,hy,rfl⟩,by dsimp only;omega,by dsimp only;omega⟩
    · cases hs
/-! ### How many spans are open -/
def dl:List (Nat × Nat)→Nat→Int
  | [],_=>0
  | x :: P,i=>dl P i+(if i=x.1 then 1 else 0)-(if i=x.2 then 1 else 0)
def cn:List (Nat × Nat)→Nat→Int
  | [],_=>0
  | x :: P,i=>cn P i+(if x.1≤i∧i<x.2 then 1 else 0)
theorem dl_app (P Q:List (Nat × Nat)) (i:Nat):dl (P++Q) i=dl P i+dl Q i:=by
  induction P with
  | nil=>simp [dl]
  | cons x P ih=>simp only [List.cons_append,dl,ih];omega
theorem cn_zero {P:List (Nat × Nat)} (h:∀ x∈P,x.1<x.2):cn P 0=dl P 0:=by
  induction P with
  | nil=>rfl
  | cons x P ih =>
    have:=h x (by simp)
    simp only [cn,dl,ih fun y hy=>h y (List.mem_cons_of_mem _ hy)]
    split <;> split <;> split <;> omega
theorem cn_succ {P:List (Nat × Nat)} (h:∀ x∈P,x.1<x.2) (i:Nat):cn P (i+1)=cn P i+dl P (i+1):=by
  induction P with
  | nil=>rfl
  | cons x P ih =>
    have:=h x (by simp)
    simp only [cn,dl,ih fun y hy=>h y (List.mem_cons_of_mem _ hy)]
    split <;> split <;> split <;> split <;> omega
theorem cn_bd (P:List (Nat × Nat)) (i:Nat):0≤cn P i∧cn P i≤P.length:=by
  induction P with
  | nil=>simp [cn]
  | cons x P ih=>simp only [cn,List.length_cons];split <;> omega
theorem dl_bd (P:List (Nat × Nat)) (i:Nat):-(P.length:Int)≤dl P i∧dl P i≤P.length:=by
  induction P with
  | nil=>simp [dl]
  | cons x P ih=>simp only [dl,List.length_cons];split <;> split <;> omega
theorem cn_pos {P:List (Nat × Nat)} {i:Nat}:0<cn P i↔∃ x∈P,x.1≤i∧i<x.2:=by
  induction P with
  | nil=>simp [cn]
  | cons x P ih =>
    have:=cn_bd P i
    simp only [cn,List.mem_cons]
    constructor
    · intro h
      by_cases hx:x.1≤i∧i<x.2
      · exact⟨x,.inl rfl,hx⟩
      · rw [if_neg hx] at h
        obtain⟨y,hy,h2⟩:=ih.1 (by omega)
        exact⟨y,.inr hy,h2⟩
    · rintro⟨y,rfl|hy,h2⟩
      · rw [if_pos h2];omega
      · have:=ih.2 ⟨y,hy,h2⟩
        split <;> omega
end Go.Proofs
/- Sums of numbers of spans,as spans. -/
namespace Go.Proofs
def gP (A:List (Int × Int)) (i:Nat):Int × Int:=A.getD i (0,0)
theorem gP_eq {A:List (Int × Int)} {i:Nat} (h:i<A.length):gP A i=A[i]:=by simp [gP,h]
theorem gP_mem {A:List (Int × Int)} {i:Nat} (h:i<A.length):gP A i∈A:=by rw [gP_eq h];exact List.getElem_mem h
theorem mem_gP {A:List (Int × Int)} {x:Int × Int} (h:x∈A):∃ i,i<A.length∧gP A i=x:=by
  obtain⟨i,hi,he⟩:=List.mem_iff_getElem.1 h
  exact⟨i,hi,by rw [gP_eq hi];exact he⟩
def mnL (A:List (Int × Int)):Nat→Int
  | 0=>(gP A 0).1
  | i+1=>min (mnL A i) (gP A i).1
def mxL (A:List (Int × Int)):Nat→Int
  | 0=>(gP A 0).2
  | i+1=>max (mxL A i) (gP A i).2
theorem mn_le (A:List (Int × Int)):∀ {n i:Nat},i<n→mnL A n≤(gP A i).1∧(gP A i).2≤mxL A n
  | n+1,i,h=>by
    simp only [mnL,mxL]
    rcases Nat.lt_or_ge i n with h1|h1
    · have:=mn_le A h1;omega
    · have:i=n:=by omega
      subst this;omega
theorem mn_bd {A:List (Int × Int)} {a b:Int} (h:∀ x∈A,a≤x.1∧x.1≤x.2∧x.2≤b) (h0:A≠[]):∀ {n:Nat},n≤A.length→a≤mnL A n∧mnL A n≤mxL A n∧mxL A n≤b
  | 0,_=>by
    have:0<A.length:=List.length_pos_iff.2 h0
    have:=h _ (gP_mem this)
    simp only [mnL,mxL];omega
  | n+1,hn=>by
    have ih:=mn_bd h h0 (n:=n) (by omega)
    have:=h _ (gP_mem (A:=A) (i:=n) (by omega))
    simp only [mnL,mxL];omega
def toF (A B:List (Int × Int)):Int:=mnL A A.length+(gP B 0).1
def toT (A B:List (Int × Int)):Int:=mxL A A.length+(gP B (B.length-1)).2
def toN (A B:List (Int × Int)):Nat:=(toT A B-toF A B+2).toNat
def prA (f:Int) (B:List (Int × Int)) (a:Int × Int):List (Nat × Nat):=B.map fun b=>((a.1+b.1-f).toNat,(a.2+b.2+1-f).toNat)
def prs (f:Int) (A B:List (Int × Int)):List (Nat × Nat):=A.flatMap (prA f B)
def toP (A B:List (Int × Int)) (i:Nat):Bool:=decide (0<cn (prs (toF A B) A B) i)
def togL (A B:List (Int × Int)):List (Int × Int):=if A=[]∨B=[] then [] else ruL (toP A B) (toN A B) (toF A B)
theorem prs_len (f:Int) (A B:List (Int × Int)):(prs f A B).length=A.length * B.length:=by
  induction A with
  | nil=>simp [prs]
  | cons a A ih=>simp only [prs,List.flatMap_cons,List.length_append,List.length_cons] at ih ⊢;rw [ih];simp [prA,Nat.add_mul];omega
theorem mem_prs {f:Int} {A B:List (Int × Int)} {x:Nat × Nat}:x∈prs f A B↔∃ a∈A,∃ b∈B,x=((a.1+b.1-f).toNat,(a.2+b.2+1-f).toNat):=by
  simp only [prs,prA,List.mem_flatMap,List.mem_map]
  constructor
  · rintro⟨a,ha,b,hb,rfl⟩;exact⟨a,ha,b,hb,rfl⟩
  · rintro⟨a,ha,b,hb,rfl⟩;exact⟨a,ha,b,hb,rfl⟩
theorem Cano.lt {B:List (Int × Int)} (h:Cano B) {i j:Nat} (hij:i<j) (hj:j<B.length):(gP B i).2+1<(gP B j).1:=by
  rw [gP_eq (by omega),gP_eq hj]
  exact List.pairwise_iff_getElem.1 h.inc i j (by omega) hj hij
theorem Cano.ends {B:List (Int × Int)} (h:Cano B) {b:Int × Int} (hb:b∈B):(gP B 0).1≤b.1∧b.2≤(gP B (B.length-1)).2:=by
  obtain⟨i,hi,rfl⟩:=mem_gP hb
  have l0:=h.le _ (gP_mem (A:=B) (i:=0) (by omega))
  have l1:=h.le _ (gP_mem (A:=B) (i:=B.length-1) (by omega))
  have l2:=h.le _ (gP_mem hi)
  constructor
  · rcases Nat.eq_zero_or_pos i with h0|h0
    · subst h0;omega
    · have:=h.lt h0 hi;omega
  · rcases Nat.lt_or_ge i (B.length-1) with h0|h0
    · have:=h.lt h0 (by omega);omega
    · have:i=B.length-1:=by omega
      subst this;omega
theorem pr_at {A B:List (Int × Int)} (hA:∀ a∈A,a.1≤a.2) (hB:Cano B) {a b:Int × Int} (ha:a∈A) (hb:b∈B) :
    toF A B≤a.1+b.1∧a.1+b.1≤a.2+b.2∧a.2+b.2≤toT A B:=by
  obtain⟨i,hi,rfl⟩:=mem_gP ha
  have h1:=mn_le A hi
  have h2:=hB.ends hb
  have h3:=hA _ ha
  have h4:=hB.le _ hb
  simp only [toF,toT];omega
theorem toP_iff {A B:List (Int × Int)} (hA:∀ a∈A,a.1≤a.2) (hB:Cano B) (i:Nat):toP A B i=true↔∃ a∈A,∃ b∈B,a.1+b.1≤toF A B+i∧toF A B+i≤a.2+b.2:=by
  simp only [toP,decide_eq_true_eq,cn_pos]
  constructor
  · rintro⟨x,hx,h1,h2⟩
    obtain⟨a,ha,b,hb,rfl⟩:=mem_prs.1 hx
    have:=pr_at hA hB ha hb
    dsimp only at h1 h2
    exact⟨a,ha,b,hb,by omega,by omega⟩
  · rintro⟨a,ha,b,hb,h1,h2⟩
    have:=pr_at hA hB ha hb
    exact⟨_,mem_prs.2 ⟨a,ha,b,hb,rfl⟩,by dsimp only;omega,by dsimp only;omega⟩
theorem prs_lt {A B:List (Int × Int)} (hA:∀ a∈A,a.1≤a.2) (hB:Cano B):∀ x∈prs (toF A B) A B,x.1<x.2∧x.2<toN A B:=fun x hx=>by
  obtain⟨a,ha,b,hb,rfl⟩:=mem_prs.1 hx
  have:=pr_at hA hB ha hb
  simp only [toN]
  omega
theorem to_end {A B:List (Int × Int)} (hA:∀ a∈A,a.1≤a.2) (hB:Cano B):(ruS (toP A B) (toN A B)).2=none:=by
  have h:=ruS_open (toP A B) (toN A B)
  cases he:(ruS (toP A B) (toN A B)).2 with
  | none=>rfl
  | some s =>
    rw [he] at h
    obtain⟨j,hj,hp⟩:=h.1 rfl
    simp only [toP,decide_eq_true_eq,cn_pos] at hp
    obtain⟨x,hx,h2,h3⟩:=hp
    have:=prs_lt hA hB x hx
    omega
theorem tog_cano (A B:List (Int × Int)):Cano (togL A B):=by
  unfold togL
  split
  · exact Cano.nil
  · exact ruL_cano _ _ _
theorem tog_in {A B:List (Int × Int)} (hA:∀ a∈A,a.1≤a.2) (hB:Cano B) (n:Int):inL (togL A B) n↔∃ a∈A,∃ b∈B,a.1+b.1≤n∧n≤a.2+b.2:=by
  unfold togL
  split
  · rename_i h
    constructor
    · rintro⟨x,hx,_⟩;cases hx
    · rintro⟨a,ha,b,hb,_⟩
      rcases h with rfl|rfl
      · cases ha
      · cases hb
  · rename_i h
    rw [not_or] at h
    rw [ruL_in _ (to_end hA hB)]
    constructor
    · rintro⟨j,hj,rfl,hp⟩
      exact (toP_iff hA hB j).1 hp
    · rintro⟨a,ha,b,hb,h1,h2⟩
      have h3:=pr_at hA hB ha hb
      refine⟨(n-toF A B).toNat,by simp only [toN];omega,by omega,?_⟩
      exact (toP_iff hA hB _).2 ⟨a,ha,b,hb,by omega,by omega⟩
def PP (f:Int) (A B:List (Int × Int)) (k m:Nat):List (Nat × Nat):=prs f (A.take k) B++(prA f B (gP A k)).take m
theorem PP_zero (f:Int) (A B:List (Int × Int)):PP f A B 0 0=[]:=by simp [PP,prs]
theorem PP_succ (f:Int) (A B:List (Int × Int)) (k:Nat) {m:Nat} (h:m<B.length):PP f A B k (m+1)=PP f A B k m++[(((gP A k).1+(gP B m).1-f).toNat,((gP A k).2+(gP B m).2+1-f).toNat)]:=by
  simp only [PP,List.append_assoc]
  congr 1
  have hl:m<(prA f B (gP A k)).length:=by simpa [prA] using h
  rw [List.take_succ_eq_append_getElem hl]
  simp [prA,gP_eq h]
theorem PP_row (f:Int) (A B:List (Int × Int)) {k:Nat} (h:k<A.length):PP f A B k B.length=PP f A B (k+1) 0:=by
  have e:(prA f B (gP A k)).take B.length=prA f B (gP A k):=List.take_of_length_le (by simp [prA])
  simp only [PP,e,List.take_zero,List.append_nil]
  rw [List.take_succ_eq_append_getElem h]
  simp only [prs,List.flatMap_append,List.flatMap_cons,List.flatMap_nil,List.append_nil,gP_eq h]
theorem PP_end (f:Int) (A B:List (Int × Int)):PP f A B A.length 0=prs f A B:=by simp [PP]
theorem PP_len (f:Int) (A B:List (Int × Int)) (k m:Nat):(PP f A B k m).length≤A.length * B.length+B.length:=by
  simp only [PP,List.length_append,prs_len,List.length_take]
  have h1:min k A.length * B.length≤A.length * B.length:=Nat.mul_le_mul_right _ (Nat.min_le_right _ _)
  have h2:(prA f B (gP A k)).length=B.length:=by simp [prA]
  omega
theorem dl_snoc (P:List (Nat × Nat)) {x y:Nat} (h:x≠y) (j:Nat):dl (P++[(x,y)]) j=if j=y then (if y=x then dl P y+1 else dl P y)-1 else (if j=x then dl P j+1 else dl P j):=by
  rw [dl_app]
  simp only [dl]
  by_cases h1:j=y
  · subst h1
    rw [if_pos rfl,if_pos rfl,if_neg (fun e=>h e.symm),if_neg (fun e=>h e.symm)];omega
  · rw [if_neg h1,if_neg h1]
    split <;> omega
end Go.Proofs
