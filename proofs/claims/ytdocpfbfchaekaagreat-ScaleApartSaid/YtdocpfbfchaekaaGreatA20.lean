/- Code over abstract states. -/
import Derived.Test.YtdocpfbfchaekaaGreatMH
namespace Go.Abs
open Go.RowKit
/-! ### Laws of the fenced walk that the guide has for the plain one -/
section
variable {F:Fence} {n:Nat} {P:Program} {Q:Exit→Act→World→Prop} {a:Act} {w:World}
theorem wpIn_loop_ghost {c:Code} (I:Nat→Act→World→Prop) (n₀:Nat) (h₀:I n₀ a w)
    (round:∀ m a w,I m a w→c.wpIn F n P (Exit.then (fun a' w'=>∃ m',m'<m∧I m' a' w') Q) a w):(Code.loop c).wpIn F n P Q a w:=by
  refine wpIn_loop (fun a w=>∃ m,I m a w) (fun a w=>leastOf (fun m=>I m a w)) ⟨n₀,h₀⟩ ?_
  intro a w hI
  refine wpIn_mono (round _ a w (leastOf_spec hI).1) ?_
  intro e a' w' hq
  cases e with
  | normal =>
    obtain⟨m',hlt,hI'⟩:=hq
    exact show (∃ m,I m a' w')∧leastOf (fun m=>I m a' w')<leastOf (fun m=>I m a w) from ⟨⟨m',hI'⟩,Nat.lt_of_le_of_lt ((leastOf_spec ⟨m',hI'⟩).2 m' hI') hlt⟩
  | exit id=>exact hq
  | goto l=>exact hq
  | ret=>exact hq
  | panic ch=>exact hq
  | outgrown=>exact hq
theorem stepR_scope {b:Frame} {k:List Item} {cs:List Frame} {c:Code}:step P (lone (b.atR a (.code (.scope c) :: k)) cs w)=.next (lone (b.atR a (.code c :: .inScope c :: k)) cs w) :=
  step_lone_go (by simp [stepG,stepG.exec,Frame.atR])
theorem stepR_inScope {b:Frame} {k:List Item} {cs:List Frame} {c:Code}:step P (lone (b.atR a (.inScope c :: k)) cs w)=.next (lone (b.atR a k) cs w) :=
  step_lone_go (by simp [stepG,stepG.exec,Frame.atR])
theorem wpIn_scope_straight {c:Code} (h:c.wpIn F n P (Exit.noGoto Q) a w):(Code.scope c).wpIn F n P Q a w:=by
  intro b k cs hro hb hr
  have h0:(lone (b.atR a (.code (.scope c) :: k)) cs w).fenced P F:=fenced_calm hb hr rfl
  obtain⟨e,a₁,w₁,hq,harr⟩:=h b (.inScope c :: k) cs hro hb hr
  cases e with
  | normal=>exact⟨.normal,a₁,w₁,hq,.head h0 stepR_scope (StepsIn.trans harr (.one (fenced_calm hb hr rfl) stepR_inScope))⟩
  | exit id' =>
    have hx:exitTo id' (.inScope c :: k)=exitTo id' k:=by simp [exitTo]
    exact⟨.exit id',a₁,w₁,hq,fun k' hk=>.head h0 stepR_scope (harr.1 k' (by rw [hx];exact hk)),
      fun hr' hk=>let ⟨k₁,h1,h2⟩:=harr.2 hr' (by rw [hx];exact hk);⟨k₁,h1,.head h0 stepR_scope h2⟩⟩
  | goto l=>exact hq.elim
  | ret=>exact⟨_,a₁,w₁,hq,.of_steps (.one h0 stepR_scope) harr⟩
  | panic ch=>exact⟨_,a₁,w₁,hq,.of_steps (.one h0 stepR_scope) harr⟩
  | outgrown=>exact⟨_,a₁,w₁,hq,.of_steps (.one h0 stepR_scope) harr⟩
end
theorem cAOs_get {P:Program} {sz:Nat} {ops:Array Oper}:∀ {l:List Oper} {al:List AO},cAOs P sz ops l=some al→al.length=l.length∧∀ (i:Nat) (o:Oper),l[i]?=some o→∃ ao,al[i]?=some ao∧cAO P sz ops o=some ao
  | [],al,h=>by
    simp only [cAOs,Option.some.injEq] at h;subst h
    exact⟨rfl,fun i o hi=>by simp at hi⟩
  | x :: l,al,h=>by
    simp only [cAOs] at h
    split at h
    · rename_i ao al' h1 h2
      simp only [Option.some.injEq] at h;subst h
      obtain⟨g1,g2⟩:=cAOs_get h2
      refine⟨by simp [g1],fun i o hi=>?_⟩
      cases i with
      | zero=>simp only [List.getElem?_cons_zero,Option.some.injEq] at hi;subst hi;exact⟨ao,rfl,h1⟩
      | succ i=>simpa using g2 i o (by simpa using hi)
    · cases h
theorem static_of {P:Program} {sz:Nat} {ops:Array Oper} {al:List AO} {ps:List (List Nat)} (h1:cAOs P sz ops ops.toList=some al) (h2:preOK ops ps=true) (h3:pairsOK al ps=true):Static P sz ops al ps:=by
  obtain⟨g1,g2⟩:=cAOs_get h1
  have pair:∀ (i j:Nat) (oi oj:AO),al[i]?=some oi→al[j]?=some oj→pairOK ps i j oi oj=true:=by
    intro i j oi oj hi hj
    have:=List.all_eq_true.1 (List.all_eq_true.1 h3 i (List.mem_range.2 (get_some_lt hi))) j (List.mem_range.2 (get_some_lt hj))
    rw [hi,hj] at this;exact this
  refine⟨by simpa using g1,fun i o hi=>g2 i o (by simpa using hi),?_,?_,?_,?_⟩
  · intro i o hi k hk
    have hlt:i<ops.size:=by
      rcases Nat.lt_or_ge i ops.size with h|h
      · exact h
      · rw [Array.getElem?_eq_none h] at hi;cases hi
    have:=List.all_eq_true.1 h2 i (List.mem_range.2 hlt)
    rw [hi] at this
    have:=List.all_eq_true.1 this k hk
    simp only [Bool.and_eq_true,decide_eq_true_eq,Bool.or_eq_true,List.any_eq_true] at this
    refine⟨this.1,?_⟩
    rcases this.2 with⟨e,he,hb,hk'⟩|⟨e,he,hb,hk'⟩
    · exact .inl ⟨e,by simpa using he,hb,hk'⟩
    · exact .inr ⟨e,by simpa using he,hb,hk'⟩
  · intro i j oi oj d hi hj hdi hdj
    have:=pair i j oi oj hi hj
    simp only [pairOK,Bool.and_eq_true] at this
    have:=this.1.1
    rw [hdi,hdj] at this
    simpa using this
  · intro i k oi ok d hi hk hd hdk
    have:=pair i k oi ok hi hk
    simp only [pairOK,Bool.and_eq_true] at this
    have:=this.1.2
    rw [hdk] at this
    simp only [hd,decide_true,Bool.not_true,Bool.false_or,Bool.or_eq_true,decide_eq_true_eq] at this
    exact this
  · intro i j oi oj hi hj hlt h2 h3
    have:=pair i j oi oj hi hj
    simp only [pairOK,Bool.and_eq_true] at this
    have:=this.2
    simp only [hlt,h2,h3,decide_true,Bool.and_self,Bool.not_true,Bool.false_or,decide_eq_true_eq] at this
    exact this
def St.prune (s:St):Option (List Nat)→St
  | none=>s
  | some ks=>⟨ks.map fun k=>(k,lk s.t k),s.h⟩
def AThen (next:St→Prop) (Q:Exit→St→Prop):Exit→St→Prop
  | .normal,s=>next s
  | e,s=>Q e s
def ABlock (id:Nat) (Q:Exit→St→Prop):Exit→St→Prop
  | .exit id',s=>if id'=id then Q .normal s else Q (.exit id') s
  | e,s=>Q e s
def AScope (Q:Exit→St→Prop):Exit→St→Prop
  | .goto _,_=>False
  | e,s=>Q e s
def LeE (H:Heap) (s s':St):Prop:=s=s'∨Le H s s'
def RangeEnd (id:Nat) (t:List (Nat × AV)) (Q:Exit→St→Prop) (h':Heap):Prop :=
  match h'[id]? with
  | some (.other (.loop _ _ _ _ .ready))=>Q .normal ⟨t,h'.set id .dead⟩
  | some (.other (.loop _ _ _ _ (.done j)))=>Q j.ex ⟨t,h'.set id .dead⟩
  | _=>False
def AC.wp (P:Program) (H:Heap):AC→(Exit→St→Prop)→St→Prop
  | .skip,Q,s=>Q .normal s
  | .ops l live,Q,s=>AOs.wp P l (fun s'=>Q .normal (s'.prune live)) s
  | .draw l ps live,Q,s=>DAO.wp P ps l 0 [] [] (fun s'=>Q .normal (s'.prune live)) s
  | .seq a b,Q,s=>a.wp P H (AThen (b.wp P H Q) Q) s
  | .cond c a b,Q,s=>match c.ev s.t with
    | .bool t=>(t=true→a.wp P H Q s)∧(t=false→b.wp P H Q s)
    | _=>False
  | .block id a,Q,s=>a.wp P H (ABlock id Q) s
  | .loop a,Q,s=>∃ (ι:Type) (S:ι→St) (μ:ι→Nat) (i:ι),LeE H s (S i)∧∀ i,a.wp P H (AThen (fun s'=>∃ j,μ j<μ i∧LeE H s' (S j)) Q) (S i)
  | .scope a,Q,s=>a.wp P H (AScope Q) s
  | .exit id,Q,s=>Q (.exit id) s
  | .ret,Q,s=>Q .ret s
  | .rangeFunc f ps a b,Q,s=>match f.ev s.t with
    | .fn (.func g) first caps=>tSc s.h.length s.t=true∧∃ R,ACalls P g (first++[.yield s.h.length]++caps) (s.h++[.other (.loop s.t ps a b .ready)]) R∧∀ v h',R v h'→RangeEnd s.h.length s.t Q h'
    | _=>False
  | .bad,_,_=>False
section
variable {P:Program} {H:Heap} {rnd:Rn} {B sz:Nat}
def Fin (P:Program) (rnd:Rn) (B sz:Nat) (H:Heap) (σ:Sg) (h:Heap) (w:World) (Q:Exit→St→Prop) (e:Exit) (a':Act) (w':World):Prop :=
  ∃ σ' s',Agree H.length σ σ'∧Sim P rnd B H.length sz σ' s' w' a'∧Grow σ h w σ' s'.h w'∧Q e s'
theorem Fin.of {σ σ1:Sg} {g g1:Heap} {w w1 w':World} {a':Act} {Q:Exit→St→Prop} {e:Exit} (h1:Agree H.length σ σ1) (h2:Grow σ g w σ1 g1 w1) (h:Fin P rnd B sz H σ1 g1 w1 Q e a' w'):Fin P rnd B sz H σ g w Q e a' w':=by
  obtain⟨σ',s',a1,a2,a3,a4⟩:=h
  exact⟨σ',s',h1.trans a1,a2,h2.trans a3,a4⟩
theorem Sim.prune {n:Nat} {σ:Sg} {s:St} {w:World} {a:Act} (k:Sim P rnd B n sz σ s w a) (live:Option (List Nat)):Sim P rnd B n sz σ (s.prune live) w a:=by
  cases live with
  | none=>exact k
  | some ks =>
    refine⟨k.hk,fun j=>?_,k.hd,k.hsz,k.hn⟩
    rcases lk_prune s.t ks j with h|h
    · show Rel σ (lk (ks.map fun k=>(k,lk s.t k)) j) _
      rw [h];trivial
    · show Rel σ (lk (ks.map fun k=>(k,lk s.t k)) j) _
      rw [h];exact k.ht j
theorem Sim.leE {B sz:Nat} {H:Heap} {σ:Sg} {s s':St} {w:World} {a:Act} (hc:Closed H) (k:Sim P rnd B H.length sz σ s w a) (h:LeE H s s') :
    ∃ σ',Agree H.length σ σ'∧Sim P rnd B H.length sz σ' s' w a∧Grow σ s.h w σ' s'.h w:=by
  rcases h with rfl|h
  · exact⟨σ,Agree.refl _ _,k,Grow.refl _ _ _⟩
  · exact k.le hc h
theorem HeapOK.putDead {σ:Sg} {h:Heap} {w:World} (k:HeapOK P B σ h w) {i:Nat} {x:OObj} {l:Loc} (hi:h[i]?=some (.other x)) (hl:σ[i]?=some (some l)) (o:Obj) :
    HeapOK P B σ (h.set i .dead) (w.putObj l.blk o):=by
  have hnd:∀ (y:Nat) (oy:AObj),(h.set i .dead)[y]?=some oy→oy.live=true→i≠y∧h[y]?=some oy:=by
    intro y oy hy hv
    rw [List.getElem?_set] at hy
    by_cases hiy:i=y
    · subst hiy
      split at hy
      · split at hy
        · simp only [Option.some.injEq] at hy;subst hy;simp [AObj.live] at hv
        · cases hy
      · rename_i hne;exact (hne rfl).elim
    · simp only [hiy,if_false] at hy;exact⟨hiy,hy⟩
  refine⟨by simp [k.len],by simpa using k.low,?_,?_⟩
  · intro j oj lj hj hlj
    by_cases hv:oj.live=true
    · obtain⟨hne,hj'⟩:=hnd j oj hj hv
      refine (k.obj j oj lj hj' hlj).world (by simp) (fun l'' e' hlive=>?_)
      subst e'
      exact World.putObj_heap_other (Ne.symm (k.uniq i j _ _ l l'' hi hj' rfl hlive hl hlj hne))
    · cases oj with
      | dead=>trivial
      | other _=>simp [AObj.live] at hv
      | cells _ _=>simp [AObj.live] at hv
  · intro a b oa ob la lb ha hb hoa hlb hla hlb' hne
    have hav:oa.live=true:=by cases oa <;> simp_all [AObj.isOwn,AObj.live]
    exact k.uniq a b oa ob la lb (hnd a oa ha hav).2 (hnd b ob hb hlb).2 hoa hlb hla hlb' hne
theorem grow_deferred {σ:Sg} {h:Heap} {w:World}:Grow σ h w σ h (w.alloc (.deferred (some []))):=Grow.beside _ _ _ _
theorem enter_any {σ:Sg} {s:St} {w:World} {a:Act} (k:Sim P rnd B H.length sz σ s w a) (fn:FuncId) (ps:Array Tmp) (assign body:Code) :
    ∃ (mk:List Nat) (w0:World) (d:Nat),(Instr.enterLoop fn a.tmps ps assign body rnd.rd).run P w =
        .ok (w0.heap.size,mk.map mark) (w0.alloc (.loop { state:=.ready,pending:=none,fn,tmps:=a.tmps,params:=ps,assign,body,defers:=d })) ∧
      HeapOK P B σ s.h w0∧Grow σ s.h w σ s.h w0∧mk.Nodup∧∀ D∈mk,w.heap.size≤D∧w0.heap[D]?=some (.deferred (some [])):=by
  cases hr:rnd.rd with
  | none =>
    refine⟨[w.heap.size],w.alloc (.deferred (some [])),w.heap.size,?_,?_,grow_deferred,by simp,?_⟩
    · rw [run_enterLoop_outer];simp [mark]
    · exact k.hk.world (by simp) fun b hb=>Below.heap_alloc _ _ _ hb
    · intro D hD
      simp only [List.mem_singleton] at hD;subst hD
      refine⟨Nat.le_refl _,?_⟩
      show (w.heap.push _)[w.heap.size]?=_
      simp
  | some l0 =>
    obtain⟨r0,h0⟩:=k.hd.round l0 hr
    refine⟨[],w,r0.defers,?_,k.hk,Grow.refl _ _ _,by simp,by simp⟩
    rw [run_enterLoop_inner h0];rfl
theorem AC.sound (hcl:Closed H):∀ (code:Code) (c:AC),comp P sz code=some c.erase→∀ (Q:Exit→St→Prop) (s:St) (σ:Sg) (w:World) (a:Act),
    Sim P rnd B H.length sz σ s w a→c.wp P H Q s→code.wpIn (RF rnd) 0 P (Fin P rnd B sz H σ s.h w Q) a w:=by
  intro code
  induction code with
  | skip =>
    intro c hc Q s σ w a k hs
    cases c <;> simp only [comp,AC.erase,Option.some.injEq,reduceCtorEq] at hc
    exact wpIn_skip ⟨σ,s,Agree.refl _ _,k,Grow.refl _ _ _,hs⟩
  | label l =>
    intro c hc Q s σ w a k hs
    cases c <;> simp only [comp,AC.erase,Option.some.injEq,reduceCtorEq] at hc
    exact wpIn_label ⟨σ,s,Agree.refl _ _,k,Grow.refl _ _ _,hs⟩
  | region id ops draw =>
    intro c hc Q s σ w a k hs
    cases draw with
    | true =>
      simp only [comp] at hc
      split at hc
      · rename_i al h1
        split at hc
        · rename_i hok
          simp only [Option.some.injEq] at hc
          cases c <;> simp only [AC.erase,AC.draw.injEq,reduceCtorEq] at hc
          rename_i l ps live
          obtain⟨rfl,rfl,_⟩:=hc
          obtain⟨cert,g⟩:=DAO.good P (predsOf ops) al _ al 0 [] [] s rfl (Nat.zero_le _) hs (fun r hr=>by cases hr)
          have hst:=static_of h1 hok.2.1 hok.2.2
          have hruns:∀ (j:Nat) (o:AO),al[j]?=some o→cert.Runs P o j:=fun j o ho=>g.runs j o (Nat.zero_le _) ho
          have hlen:σ.length=(cert.hp 0).length:=by rw [g.hp];exact k.hk.len
          have htk:σ.take (cert.hp 0).length=σ:=List.take_of_length_le (by omega)
          have hkd:HeapOK P B σ s.h w.drew:=k.hk.heap_eq rfl
          refine wpIn_region_draw fun t=>order_run hst g (sz:=sz) (B:=B) (σ0:=σ) (w0:=w.drew) k.hn ?_ _ [] 0 σ w.drew a (schedule_topo hok.1 _ t) ?_
          · rintro a' w' ⟨σ',s',g1,g2,g3,g4⟩
            exact⟨σ',_,g1,g2.prune live,(Grow.drew σ s.h w).trans (by cases live <;> exact g3),g4⟩
          · refine⟨Nat.zero_le _,by omega,?_,?_,?_,Agree.refl _ _,?_,?_,?_,?_,?_,?_,k.hd.mono (Grow.drew σ s.h w).ctl rfl,k.hsz⟩
            · rw [hlen];exact hp_mono hruns (Nat.zero_le _) (Nat.le_refl _)
            · rw [htk,g.hp];exact hkd
            · rw [htk,g.hp];exact Grow.refl _ _ _
            · intro k' o hk';omega
            · intro i o hi;cases hi
            · intro j l' hj hl'
              have:=get_some_lt hl'
              omega
            · intro i o l' hi;cases hi
            · intro i i' o o' l' l'' hi;cases hi
            · intro k'
              exact⟨(fun i o hi=>by cases hi),fun _=>k.ht k'⟩
        · cases hc
      · cases hc
    | false =>
      simp only [comp] at hc
      obtain⟨al,h1,h2⟩:=map_some hc
      cases c <;> simp only [AC.erase,AC.ops.injEq,reduceCtorEq] at h2
      rename_i l live
      obtain⟨rfl,_⟩:=h2
      refine wpIn_region_list (AOs.sound ops.toList al s σ w a _ h1 k hs ?_)
      rintro a' w' ⟨σ',s',g1,g2,g3,g4⟩
      exact⟨σ',_,g1,g2.prune live,by cases live <;> exact g3,g4⟩
  | seq x y ihx ihy =>
    intro c hc Q s σ w a k hs
    simp only [comp] at hc
    split at hc
    · rename_i cx cy h1 h2
      simp only [Option.some.injEq] at hc
      cases c <;> simp only [AC.erase,AC.seq.injEq,reduceCtorEq] at hc
      rename_i cx' cy'
      obtain⟨rfl,rfl⟩:=hc
      refine wpIn_seq (wpIn_mono (ihx cx' h1 _ s σ w a k hs) ?_)
      rintro e a' w' ⟨σ',s',g1,g2,g3,g4⟩
      cases e with
      | normal=>exact wpIn_mono (ihy cy' h2 Q s' σ' w' a' g2 g4) fun e a w h=>h.of g1 g3
      | exit _=>exact⟨σ',s',g1,g2,g3,g4⟩
      | goto _=>exact⟨σ',s',g1,g2,g3,g4⟩
      | ret=>exact⟨σ',s',g1,g2,g3,g4⟩
      | panic _=>exact⟨σ',s',g1,g2,g3,g4⟩
      | outgrown=>exact⟨σ',s',g1,g2,g3,g4⟩
    · cases hc
  | cond x a b iha ihb =>
    intro c hc Q s σ w act k hs
    simp only [comp] at hc
    split at hc
    · rename_i cx ca cb h0 h1 h2
      simp only [Option.some.injEq] at hc
      cases c <;> simp only [AC.erase,AC.cond.injEq,reduceCtorEq] at hc
      rename_i cx' ca' cb'
      obtain⟨rfl,rfl,rfl⟩:=hc
      simp only [AC.wp] at hs
      split at hs
      · rename_i t ht
        have hr:=copd_rel k.ht h0
        rw [ht] at hr
        simp only [Rel] at hr
        exact wpIn_cond_split hr (fun h=>iha ca' h1 Q s σ w act k (hs.1 h)) (fun h=>ihb cb' h2 Q s σ w act k (hs.2 h))
      · cases hs
    · cases hc
  | block id x ih =>
    intro c hc Q s σ w a k hs
    simp only [comp] at hc
    obtain⟨cx,h1,h2⟩:=map_some hc
    cases c <;> simp only [AC.erase,AC.block.injEq,reduceCtorEq] at h2
    rename_i id' cx'
    obtain⟨rfl,rfl⟩:=h2
    refine wpIn_block (wpIn_mono (ih cx' h1 _ s σ w a k hs) ?_)
    rintro e a' w' ⟨σ',s',g1,g2,g3,g4⟩
    cases e with
    | exit j =>
      simp only [ABlock] at g4
      by_cases hj:j=id
      · simp only [Exit.inBlock,hj,if_true] at g4 ⊢;exact⟨σ',s',g1,g2,g3,g4⟩
      · simp only [Exit.inBlock,hj,if_false] at g4 ⊢;exact⟨σ',s',g1,g2,g3,g4⟩
    | normal=>exact⟨σ',s',g1,g2,g3,g4⟩
    | goto _=>exact⟨σ',s',g1,g2,g3,g4⟩
    | ret=>exact⟨σ',s',g1,g2,g3,g4⟩
    | panic _=>exact⟨σ',s',g1,g2,g3,g4⟩
    | outgrown=>exact⟨σ',s',g1,g2,g3,g4⟩
  | loop x ih =>
    intro c hc Q s σ w a k hs
    simp only [comp] at hc
    obtain⟨cx,h1,h2⟩:=map_some hc
    cases c <;> simp only [AC.erase,AC.loop.injEq,reduceCtorEq] at h2
    rename_i cx'
    subst h2
    obtain⟨ι,S,μ,i₀,hle,hround⟩:=hs
    obtain⟨σ₀,ag₀,k₀,gr₀⟩:=k.leE hcl hle
    refine wpIn_loop_ghost (fun m a' w'=>∃ i σ',m=μ i∧Agree H.length σ σ'∧Sim P rnd B H.length sz σ' (S i) w' a'∧Grow σ s.h w σ' (S i).h w') (μ i₀) ⟨i₀,σ₀,rfl,ag₀,k₀,gr₀⟩ ?_
    rintro m a' w' ⟨i,σ',rfl,g1,g2,g3⟩
    refine wpIn_mono (ih cx' h1 _ (S i) σ' w' a' g2 (hround i)) ?_
    rintro e a'' w'' ⟨σ'',s'',q1,q2,q3,q4⟩
    cases e with
    | normal =>
      obtain⟨j,hj,hle'⟩:=q4
      obtain⟨σ3,ag3,k3,gr3⟩:=q2.leE hcl hle'
      exact⟨μ j,hj,j,σ3,rfl,(g1.trans q1).trans ag3,k3,(g3.trans q3).trans gr3⟩
    | exit _=>exact⟨σ'',s'',g1.trans q1,q2,g3.trans q3,q4⟩
    | goto _=>exact⟨σ'',s'',g1.trans q1,q2,g3.trans q3,q4⟩
    | ret=>exact⟨σ'',s'',g1.trans q1,q2,g3.trans q3,q4⟩
    | panic _=>exact⟨σ'',s'',g1.trans q1,q2,g3.trans q3,q4⟩
    | outgrown=>exact⟨σ'',s'',g1.trans q1,q2,g3.trans q3,q4⟩
  | scope x ih =>
    intro c hc Q s σ w a k hs
    simp only [comp] at hc
    obtain⟨cx,h1,h2⟩:=map_some hc
    cases c <;> simp only [AC.erase,AC.scope.injEq,reduceCtorEq] at h2
    rename_i cx'
    subst h2
    refine wpIn_scope_straight (wpIn_mono (ih cx' h1 _ s σ w a k hs) ?_)
    rintro e a' w' ⟨σ',s',g1,g2,g3,g4⟩
    cases e with
    | goto _=>exact g4.elim
    | normal=>exact⟨σ',s',g1,g2,g3,g4⟩
    | exit _=>exact⟨σ',s',g1,g2,g3,g4⟩
    | ret=>exact⟨σ',s',g1,g2,g3,g4⟩
    | panic _=>exact⟨σ',s',g1,g2,g3,g4⟩
    | outgrown=>exact⟨σ',s',g1,g2,g3,g4⟩
  | exit id =>
    intro c hc Q s σ w a k hs
    cases c <;> simp only [comp,AC.erase,Option.some.injEq,reduceCtorEq,AC.exit.injEq] at hc
    subst hc
    exact wpIn_exit ⟨σ,s,Agree.refl _ _,k,Grow.refl _ _ _,hs⟩
  | ret =>
    intro c hc Q s σ w a k hs
    cases c <;> simp only [comp,AC.erase,Option.some.injEq,reduceCtorEq] at hc
    exact wpIn_ret ⟨σ,s,Agree.refl _ _,k,Grow.refl _ _ _,hs⟩
  | rangeFunc f ps x y ihx ihy =>
    intro c hc Q s σ w a k hs
    simp only [comp] at hc
    split at hc
    · rename_i cf ca cb h0 h1 h2
      split at hc
      · rename_i hps
        simp only [Option.some.injEq] at hc
        cases c <;> simp only [AC.erase,AC.rangeFunc.injEq,reduceCtorEq] at hc
        rename_i cf' ps' ca' cb'
        obtain⟨rfl,rfl,rfl,rfl⟩:=hc
        simp only [AC.wp] at hs
        split at hs
        · rename_i g first caps hf
          obtain⟨htsc,R,hcall,hend⟩:=hs
          refine wpIn_rangeFunc fun fn _=>?_
          obtain⟨mk,w0,d,henter,hk0,hg0,hnd,hmk⟩:=enter_any k fn ps x y
          have hv:=copd_rel k.ht h0
          rw [hf] at hv
          obtain⟨fa,ca,hv1,hv2,hv3⟩:=hv
          have hlen:σ.length=s.h.length:=k.hk.len
          obtain⟨rec,hrec⟩:∃ rec:Loop,rec={ state:=.ready,pending:=none,fn,tmps:=a.tmps,params:=ps,assign:=x,body:=y,defers:=d }:=⟨_,rfl⟩
          have hx:Ext σ (σ++[some ⟨w0.heap.size,0,0⟩]):=Ext.app _ _
          have hk1:HeapOK P B (σ++[some ⟨w0.heap.size,0,0⟩]) (s.h++[.other (.loop s.t ps.toList ca' cb' .ready)]) (w0.alloc (.loop rec)) :=
            hk0.allocO (.loop rec) 0 ⟨rec,rfl,by rw [hrec];exact k.ht.mono hx,by rw [hrec],by rw [hrec];simpa [k.hsz] using hps,by rw [hrec];simpa [k.hsz] using h1,by rw [hrec];simpa [k.hsz] using h2,
              by rw [hrec];exact⟨rfl,rfl⟩,by simp only [List.length_append];exact tSc_mono (by omega) htsc⟩
          have hg1:Grow σ s.h w (σ++[some ⟨w0.heap.size,0,0⟩]) (s.h++[.other (.loop s.t ps.toList ca' cb' .ready)]) (w0.alloc (.loop rec)):=hg0.trans (Grow.alloc hlen _ _ _ rfl)
          have hid:(σ++[some (⟨w0.heap.size,0,0⟩:Loc)])[s.h.length]?=some (some ⟨w0.heap.size,0,0⟩):=by rw [← hlen];simp
          rw [← hrec] at henter
          refine⟨w0.heap.size,mk.map mark,w0.alloc (.loop rec),{ target:=.fn (.func g) ca,args:=fa++#[.func (.yield w0.heap.size) #[] #[]] },w0.alloc (.loop rec),g,
            fa++#[.func (.yield w0.heap.size) #[] #[]]++ca,w0.alloc (.loop rec),henter,?_,fun _ _=>trivial,?_,depth_rf,?_⟩
          · have hv1':a.eval f=.func (.func g) fa ca:=hv1
            have hc1:a.eval (.const (.func (.yield w0.heap.size) #[] #[]))=.func (.yield w0.heap.size) #[] #[]:=rfl
            simp [resolve,rangeCall,Deferred.ofValue,hv1',hc1]
          · simp [invoke,guardFun_call hcall.1]
          · have hrel:RelL (σ++[some (⟨w0.heap.size,0,0⟩:Loc)]) (first++[.yield s.h.length]++caps) (fa++#[Value.func (.yield w0.heap.size) #[] #[]]++ca).toList:=by
              have e1:=RelL.append (RelL.append (RelL.mono hx _ _ hv2) (show RelL (σ++[some (⟨w0.heap.size,0,0⟩:Loc)]) [.yield s.h.length] [Value.func (.yield w0.heap.size) #[] #[]] from ⟨_,_,rfl,⟨_,hid,rfl⟩,rfl⟩)) (RelL.mono hx _ _ hv3)
              simpa using e1
            have hcc:CallsIn Fence.wide (0-1) P g _ (w0.alloc (.loop rec)) _:=callsIn_wide.2 (hcall.2 B _ _ _ hk1 hrel)
            refine CallsIn.mono (F:=RF rnd) hcc ?_
            rintro e w' ⟨c,σ',v,h',rfl,⟨τ,rfl⟩,e3,e4,e5,e6⟩
            have hr:=hend v h' e6
            have hid':(σ++[some (⟨w0.heap.size,0,0⟩:Loc)]++τ)[s.h.length]?=some (some ⟨w0.heap.size,0,0⟩):=by
              rw [List.getElem?_append_left (by simp;omega)];exact hid
            have hgw:=hg1.trans e5
            have hnσ:H.length≤σ.length:=by rw [hlen];exact k.hn
            have hag:Agree H.length σ (σ++[some (⟨w0.heap.size,0,0⟩:Loc)]++τ):=by
              intro i hi
              rw [List.append_assoc,List.getElem?_append_left (by omega)]
            have hle:H.length≤h'.length:=by have:=e3.len;simp at this;have:=k.hn;omega
            have after:∀ (r:Loop) (t1:List (Nat × AV)) (ps1:List Nat) (a1 b1:AC) (ph:Phase),h'[s.h.length]?=some (.other (.loop t1 ps1 a1 b1 ph))→w'.heap[w0.heap.size]?=some (.loop r) →
                ∀ (ex:Exit),Q ex ⟨s.t,h'.set s.h.length .dead⟩→Fin P rnd B sz H σ s.h w Q ex { a with defers:=mk.map mark++a.defers } (w'.putObj w0.heap.size (.loop { r with state:=.exhausted })):=by
              intro r t1 ps1 a1 b1 ph hob hblk ex hq
              have hct:Ctl w' (w'.putObj w0.heap.size (.loop { r with state:=.exhausted })):=Ctl.putObj w' _ hblk (fun r' e=>by cases e;exact⟨_,rfl,rfl⟩) (by intro d e;cases e)
              have hgf:=hgw.trans (Grow.put (ob':=.dead) hob rfl hid' (.loop { r with state:=.exhausted }) hct)
              refine⟨_,⟨s.t,h'.set s.h.length .dead⟩,hag,⟨e3.putDead hob hid' _,k.ht.mono (hx.trans (Ext.app _ _)),?_,k.hsz,by simpa using hle⟩,hgf,hq⟩
              obtain⟨l0,⟨Ds,m1,m2,m3⟩,l2⟩:=k.hd
              have hall:=hgf.ctl
              refine⟨Nat.le_trans l0 hall.size,⟨mk++Ds,by simp [m1],?_,?_⟩,fun l e=>?_⟩
              · rw [List.nodup_append]
                refine⟨hnd,m2,fun D hD D' hD' e=>?_⟩
                subst e
                have h1:=(hmk D hD).1
                have h2:=(Array.getElem?_eq_some_iff.1 (m3 D hD').2).1
                omega
              · intro D hD
                rcases List.mem_append.1 hD with hD|hD
                · have:=hmk D hD
                  refine⟨Nat.le_trans l0 this.1,?_⟩
                  exact (((Ctl.alloc w0 (.loop rec)).trans e5.ctl).trans hct).mark D this.2
                · exact⟨(m3 D hD).1,hall.mark D (m3 D hD).2⟩
              · obtain⟨r0,hr0⟩:=l2 l e
                obtain⟨r1,hr1,_⟩:=hall.loop l r0 hr0
                exact⟨r1,hr1⟩
            unfold RangeEnd at hr
            split at hr
            · rename_i t1 ps1 a1 b1 hob
              obtain⟨_,_,_,r,hblk,_,_,_,_,_,hph,_⟩:=e3.obj _ _ _ hob hid'
              refine⟨none,_,?_,after r _ _ _ _ _ hob hblk .normal hr⟩
              rw [run_endLoop hblk (by rw [hph.1];simp),hph.2]
            · rename_i t1 ps1 a1 b1 j hob
              obtain⟨_,_,_,r,hblk,_,_,_,_,_,hph,_⟩:=e3.obj _ _ _ hob hid'
              refine⟨some j.code,w'.putObj w0.heap.size (.loop { r with state:=.exhausted }),?_,?_⟩
              · rw [run_endLoop hblk (by rw [hph.1];simp),hph.2]
              · have fin:=after r _ _ _ _ _ hob hblk j.ex hr
                cases j with
                | ret=>exact wpIn_ret fin
                | exit id=>exact wpIn_exit fin
            · exact hr.elim
        · cases hs
      · cases hc
    · cases hc
  | goto l=>intro c hc Q s σ w a k hs;simp only [comp,Option.some.injEq] at hc;cases c <;> simp only [AC.erase,reduceCtorEq] at hc;exact hs.elim
  | refuse why=>intro c hc Q s σ w a k hs;simp only [comp,Option.some.injEq] at hc;cases c <;> simp only [AC.erase,reduceCtorEq] at hc;exact hs.elim
end
end Go.Abs
