/- The abstract machine, run for the kernel: calls that are reckoned apart, each in a theorem of its own. -/
import Derived.Test.YtdocpfbfchaekaaGreatA35
noncomputable section
namespace Go.Abs
open Go.RowKit
structure OEnt where
  f:FuncId
  args:List AV
  tr:Tr
  s:Nat
  v:AV
  tr':Tr
  s':Nat
def OEnt.OK (P:Program) (k:OEnt):Prop:=ACalls P k.f k.args (ab k.tr k.s) (fun v h=>v=k.v∧h=ab k.tr' k.s')
section
open Classical
def orcH (c:FuncId→List AV→Heap→Option (AV × Heap)):List OEnt→FuncId→List AV→Heap→Option (AV × Heap)
  | [],f,args,h=>c f args h
  | k :: ks,f,args,h=>if k.f=f∧k.s=h.length∧beqL k.args args=true then (if ab k.tr k.s=h then some (k.v,ab k.tr' k.s') else none) else orcH c ks f args h
theorem orcH_ok {P:Program} {c:FuncId→List AV→Heap→Option (AV × Heap)} (hc:CallsOK P c):∀ ks:List OEnt,(∀ k∈ks,k.OK P)→CallsOK P (orcH c ks)
  | [],_,f,args,h,v,h',hr=>hc f args h v h' hr
  | k :: ks,hk,f,args,h,v,h',hr=>by
    simp only [orcH] at hr
    split at hr
    · rename_i h1
      split at hr
      · rename_i h2
        simp only [Option.some.injEq,Prod.mk.injEq] at hr
        obtain⟨rfl,rfl⟩:=hr
        have:=hk k (by simp)
        unfold OEnt.OK at this
        rw [h1.1,beqL_eq _ _ h1.2.2,h2] at this
        exact this
      · cases hr
    · exact orcH_ok hc ks (fun k hk'=>hk k (by simp [hk'])) f args h v h' hr
end
def eqO (a b:AObj):Bool:=match a,b with
  | .cells x o,.cells y p=>beqL x y && (o == p)
  | .dead,.dead=>true
  | _,_=>false
theorem eqO_eq {a b:AObj} (h:eqO a b=true):a=b:=by
  cases a <;> cases b <;> simp only [eqO,Bool.false_eq_true,Bool.and_eq_true,beq_iff_eq] at h
  · rw [beqL_eq _ _ h.1,h.2]
  · rfl
def eqTr:Tr→Tr→Bool
  | .nil,.nil=>true
  | .bin l o r,.bin l' o' r'=>eqTr l l' && eqO o o' && eqTr r r'
  | _,_=>false
theorem eqTr_eq:∀ {a b:Tr},eqTr a b=true→a=b
  | .nil,.nil,_=>rfl
  | .nil,.bin _ _ _,h=>by simp [eqTr] at h
  | .bin _ _ _,.nil,h=>by simp [eqTr] at h
  | .bin l o r,.bin l' o' r',h=>by
    simp only [eqTr,Bool.and_eq_true] at h
    rw [eqTr_eq h.1.1,eqO_eq h.1.2,eqTr_eq h.2]
def orcT (c:CallT) (ks:List OEnt):CallT:=fun f args tr s=>List.rec (motive:=fun _=>Option RT) (c f args tr s)
  (fun k _ ih=>yes (Nat.beq k.f f) (yes (Nat.beq k.s s) (yes (beqL k.args args) (yes (eqTr k.tr tr) (some (k.v,k.tr',k.s')) none) ih) ih) ih) ks
theorem orcS {c':CallT} {c:FuncId→List AV→Heap→Option (AV × Heap)} (hc:CallS c' c):∀ ks:List OEnt,CallS (orcT c' ks) (orcH c ks)
  | []=>hc
  | k :: ks=>by
    intro f args tr s v tr' s' h
    have h:yes (Nat.beq k.f f) (yes (Nat.beq k.s s) (yes (beqL k.args args) (yes (eqTr k.tr tr) (some (k.v,k.tr',k.s')) none) (orcT c' ks f args tr s)) (orcT c' ks f args tr s)) (orcT c' ks f args tr s)=some (v,tr',s'):=h
    have ih:=orcS hc ks f args tr s v tr' s'
    simp only [orcH,ab_len]
    simp only [yes_eq,Nat.beq_eq] at h
    by_cases h1:k.f=f
    · by_cases h2:k.s=s
      · by_cases h3:beqL k.args args=true
        · rw [if_pos h1,if_pos h2,if_pos h3] at h
          split at h
          · rename_i h4
            have h4:=eqTr_eq h4
            simp only [Option.some.injEq,Prod.mk.injEq] at h
            obtain⟨rfl,rfl,rfl⟩:=h
            rw [if_pos ⟨h1,h2,h3⟩,if_pos (by rw [h4,h2])]
          · cases h
        · rw [if_pos h1,if_pos h2,if_neg h3] at h
          rw [if_neg (fun e=>h3 e.2.2)];exact ih h
      · rw [if_pos h1,if_neg h2] at h
        rw [if_neg (fun e=>h2 e.2.1)];exact ih h
    · rw [if_neg h1] at h
      rw [if_neg (fun e=>h1 e.1)];exact ih h
def plT (t:Tr):Nat→AObj→Tr:=Tr.rec (motive:=fun _=>Nat→AObj→Tr) (fun _ o=>.bin .nil o .nil)
  (fun l x r il ir n o=>Nat.casesOn (motive:=fun _=>Tr) n (.bin l o r) fun m=>Bool.casesOn (motive:=fun _=>Tr) (Nat.beq (Nat.mod m 2) 0) (.bin l x (ir (Nat.div m 2) o)) (.bin (il (Nat.div m 2) o) x r)) t
def plsT (t:Tr) (l:List (Nat × AObj)):Tr:=List.rec (motive:=fun _=>Tr→Tr) (fun t=>t) (fun p _ ih t=>ih (plT t p.1 p.2)) l t
/-! ### What a call leaves,without what nothing speaks of -/
def rho (n:Nat) (ps:List Nat) (i:Nat):Nat:=if i<n then i else ps.getD (i-n) 0
def incB:Nat→List Nat→Bool
  | _,[]=>true
  | m,k :: ks=>Nat.ble m k && incB (k+1) ks
theorem incB_ge:∀ {m:Nat} {l:List Nat},incB m l=true→∀ i,i<l.length→m≤l.getD i 0
  | m,[],_,i,hi=>by simp at hi
  | m,k :: ks,h,i,hi=>by
    simp only [incB,Bool.and_eq_true,Nat.ble_eq] at h
    cases i with
    | zero=>simpa using h.1
    | succ i =>
      have:=incB_ge h.2 i (by simpa using hi)
      simp only [List.getD_cons_succ];omega
theorem incB_lt:∀ {m:Nat} {l:List Nat},incB m l=true→∀ i j,i<j→j<l.length→l.getD i 0<l.getD j 0
  | m,[],_,i,j,_,hj=>by simp at hj
  | m,k :: ks,h,i,j,hij,hj=>by
    simp only [incB,Bool.and_eq_true,Nat.ble_eq] at h
    cases j with
    | zero=>omega
    | succ j =>
      have hj:j<ks.length:=by simpa using hj
      cases i with
      | zero =>
        have:=incB_ge h.2 j hj
        simp only [List.getD_cons_succ,List.getD_cons_zero];omega
      | succ i =>
        simp only [List.getD_cons_succ]
        exact incB_lt h.2 i j (by omega) hj
def gcB (k:OEnt) (keep:List Nat) (r:Option RT):Bool:=match r with
  | none=>false
  | some (v,tr1,s1)=>Nat.ble k.s s1 && (Nat.beq k.s' (k.s+keep.length) && (v.beq (k.v.ren (rho k.s keep)) && (k.v.sc k.s' && (incB k.s keep &&
      ((List.range k.s).all (fun i=>eqO (getT tr1 i) (getT k.tr i) && eqO (getT k.tr' i) (getT k.tr i)) &&
      (List.range keep.length).all (fun j=>Nat.ble (keep.getD j 0+1) s1 && ((getT k.tr' (k.s+j)).sc k.s' && eqO (getT tr1 (keep.getD j 0)) ((getT k.tr' (k.s+j)).ren (rho k.s keep)))))))))
theorem gcB_le {k:OEnt} {keep:List Nat} {v:AV} {tr1:Tr} {s1:Nat} (h:gcB k keep (some (v,tr1,s1))=true):Le (ab k.tr k.s) ⟨[(0,v)],ab tr1 s1⟩ ⟨[(0,k.v)],ab k.tr' k.s'⟩:=by
  simp only [gcB,Bool.and_eq_true,Nat.ble_eq,Nat.beq_eq,List.all_eq_true,List.mem_range] at h
  obtain⟨h1,h2,h3,h4,h5,h6,h7⟩:=h
  refine⟨by simp only [ab_len];omega,rho k.s keep,fun i hi=>by rw [ab_len] at hi;simp [rho,hi],fun i o ho=>?_,fun i j oi oj hi hj _ _ hne=>?_,fun m=>?_⟩
  · simp only [ab_get] at ho ⊢
    split at ho
    · rename_i hlt
      simp only [Option.some.injEq] at ho
      rcases Nat.lt_or_ge i k.s with h|h
      · obtain⟨a,b⟩:=h6 i h
        have a:=eqO_eq a
        have b:=eqO_eq b
        refine .inr (.inl ⟨by rw [if_pos h,← b,ho],by rw [if_pos (by omega),a,← b,ho]⟩)
      · have hj:i-k.s<keep.length:=by omega
        obtain⟨a,b,c⟩:=h7 (i-k.s) hj
        have c:=eqO_eq c
        have e:k.s+(i-k.s)=i:=by omega
        rw [e,ho] at b c
        refine .inr (.inr ⟨by simp only [ab_len];exact b,?_⟩)
        have er:rho k.s keep i=keep.getD (i-k.s) 0:=by simp only [rho];rw [if_neg (by omega)]
        rw [er,if_pos (by omega),c]
    · cases ho
  · simp only [ab_get] at hi hj
    split at hi
    · split at hj
      · rename_i g1 g2
        simp only [rho]
        rcases Nat.lt_or_ge i k.s with a|a <;> rcases Nat.lt_or_ge j k.s with b|b
        · rw [if_pos a,if_pos b];exact hne
        · rw [if_pos a,if_neg (by omega)]
          have:=incB_ge h5 (j-k.s) (by omega);omega
        · rw [if_neg (by omega),if_pos b]
          have:=incB_ge h5 (i-k.s) (by omega);omega
        · rw [if_neg (by omega),if_neg (by omega)]
          rcases Nat.lt_or_ge i j with c|c
          · have:=incB_lt h5 (i-k.s) (j-k.s) (by omega) (by omega);omega
          · have:=incB_lt h5 (j-k.s) (i-k.s) (by omega) (by omega);omega
      · cases hj
    · cases hi
  · show lk [(0,k.v)] m=.junk∨((lk [(0,k.v)] m).sc (ab k.tr' k.s').length=true∧lk [(0,v)] m=(lk [(0,k.v)] m).ren (rho k.s keep))
    simp only [lk]
    split
    · exact .inr ⟨by rw [ab_len];exact h4,beq_eq _ _ h3⟩
    · exact .inl rfl
section
variable {P:Program}
theorem runF_le {T:FuncId→Option Ent} {call:FuncId→List AV→Heap→Option (AV × Heap)} {yl:Nat→List AV→Heap→Option (AV × Heap)} {e:Ent} {f:FuncId} (hTe:T f=some e) (hFn:FnOK P f e.ac e.rs e.n) (hc:CallsOK P call) (hy:YieldsOK P yl) {n:Nat} {args:List AV} {h h' h2:Heap} {v v2:AV}
    (hr:runF T call yl n f args h=some (v,h')) (hle:Le h ⟨[(0,v)],h'⟩ ⟨[(0,v2)],h2⟩):ACalls P f args h (fun v' h''=>v'=v2∧h''=h2):=by
  simp only [runF,hTe] at hr
  split at hr
  · rename_i hl
    have fin:∀ (s:St) (ex:Exit),(ex=.normal∨ex=.ret)→runC call yl n e.ac ⟨argsT 0 args,h⟩=some (ex,s)→(match resV s e.rs with|some v=>some (v,s.h)|none=>none)=some (v,h')→ACalls P f args h (fun v' h''=>v'=v2∧h''=h2):=by
      intro s ex hex hrun hv
      refine hFn.calls hl fun _=>runC_wp hc hy h n e.ac _ _ _ hrun ?_
      split at hv
      · rename_i v0 hv0
        simp only [Option.some.injEq,Prod.mk.injEq] at hv
        obtain⟨rfl,rfl⟩:=hv
        exact⟨hex,v0,hv0,v2,h2,.inr hle,rfl,rfl⟩
      · cases hv
    split at hr
    · rename_i s hrun;exact fin s .normal (.inl rfl) hrun hr
    · rename_i s hrun;exact fin s .ret (.inr rfl) hrun hr
    · cases hr
  · cases hr
def goO (T:ETr) (n:Nat) (ks:List OEnt) (e:Ent) (args:List AV) (tr:Tr) (s:Nat):Option RT:=(funC (orcT (goC T n).1 ks) (goC T n).2 n (some e)).f args tr s
theorem goO_calls {T:ETr} (hT:TabOK P 1 0 T) (n:Nat) (ks:List OEnt) (hk:∀ k∈ks,k.OK P) (k:OEnt) {e:Ent} (hFn:FnOK P k.f e.ac e.rs e.n) (keep:List Nat) (hr:gcB k keep (goO T n ks e k.args k.tr k.s)=true):k.OK P:=by
  have hE:EntsOK P (getE T):=fun f e h=>by
    have:=tab_ok hT f e h
    rwa [Nat.one_mul,Nat.add_zero] at this
  have hS:=goT_ok (T:=T) n
  have hR:=run_ok hE n
  cases hg:goO T n ks e k.args k.tr k.s with
  | none=>rw [hg] at hr;simp [gcB] at hr
  | some r =>
    obtain⟨v,tr1,s1⟩:=r
    rw [hg] at hr
    have hle:=gcB_le hr
    have e1:goC T n=goT T n:=by rw [goC_eq,goB_eq,goQ_eq]
    have hg2:(funB (some e)).f (orcT (goT T n).1 ks) (goT T n).2 n k.args k.tr k.s=some (v,tr1,s1):=by
      rw [← hg];unfold goO;rw [funC_eq,e1]
    have hg3:funcT (orcT (goT T n).1 ks) (goT T n).2 (.bin .nil (some e) .nil) n 0 k.args k.tr k.s=some (v,tr1,s1):=by
      rw [← hg2,← funcQ_eq,← funB_eq];rfl
    have hrun:=funcT_ok (orcS hS.1 ks) hS.2 n _ _ _ _ _ _ _ hg3
    have hrun2:runF (fun _=>some e) (orcH (run (getE T) n).1 ks) (run (getE T) n).2 n k.f k.args (ab k.tr k.s)=some (v,ab tr1 s1):=by
      rw [← hrun];rfl
    exact runF_le rfl hFn (orcH_ok hR.1 ks hk) hR.2 hrun2 hle
end
theorem goO_frame {P:Program} {k:OEnt} (hk:k.OK P) (hs:k.s=0) (hs':k.s'=0) (hv:k.v=.bool true) (ha:scL 0 k.args=true) (H:Heap) :
    ACalls P k.f k.args H (fun v' h''=>v'=.bool true∧h''=H):=by
  unfold OEnt.OK at hk
  rw [hs,hs',hv] at hk
  have e:∀ t,ab t 0=[]:=fun t=>rfl
  rw [e,e] at hk
  exact hk.frame ha rfl H
end Go.Abs
end
