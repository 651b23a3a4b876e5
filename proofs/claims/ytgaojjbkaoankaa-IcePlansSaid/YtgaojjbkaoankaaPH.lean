/- Several texts as one. -/
import Derived.Test.YtgaojjbkaoankaaPA
import Derived.Test.YtgaojjbkaoankaaPB
import Derived.Test.YtgaojjbkaoankaaPC
/- Plans of hands: no hours are short just if there is a plan. -/
namespace Go.Proofs
open Go.Abs
attribute [local simp] AOp.den AOpd.ev lk cellsOf rd_new rd_new0 rd_zero rd_succ wr_new wr_new0 wr_zero wr_succ splice fillA binA scal sliceCells List.length_append argsT AV.sc scL AObj.sc resV getAll AR.get AOp.slots opdSlots opdsSlots partSlots eqAt at_new0 at_new set_new0 set_new wrap64
set_option linter.unusedSimpArgs false
set_option linter.unusedVariables false
open Go.Hall
theorem Pend.unput {B:Nat} {S:Nat→Nat→Option Bool} {G:Nat→Nat→Option Nat} {Lf:Nat→Int} {A A2:Nat→Nat→Bool} {k q:Nat} (hp:Pend B S G Lf (putA A k q) A2)
    (hc:A k q=false→(k<B∧q<12∧S k q=none)∧(∀ u,G k q=some u→∀ h',h'<u→S h' q=none→A2 h' q=true)∧(G k q=none→Lf k=0∧∀ s',(G k s').isSome=true→A2 k s'=true)):Pend B S G Lf A A2:=fun h s h1 h2=>by
  by_cases e:h=k∧s=q
  · obtain⟨rfl,rfl⟩:=e
    exact hc h1
  · exact hp h s (by simp only [putA];rw [if_neg e];exact h1) h2
theorem find_pure {B N:Nat} (hB:B≤8) (hN:N≤12) {S:Nat→Nat→Option Bool}:∀ (n:Nat) {A:Nat→Nat→Bool} {G:Nat→Nat→Option Nat} {Lf:Nat→Int} {s b:Nat},ua A≤n→VG B N S G→(∀ h,h<8→0≤Lf h)→b≤B→s<N →
    (∃ A' G' L',Won B N S s b A A' G G' Lf L')∨∃ A',Lost B S s b A A' G Lf:=by
  intro n
  induction n using Nat.strongRecOn with
  | ind n ih =>
  intro A G Lf s b hn hv hl hb hs
  have hs12:s<12:=by omega
  have loop:∀ k,k≤b→(∃ A' G' L',Won B N S s b A A' G G' Lf L')∨∃ A1,subA A A1∧(∀ h,h<k→S h s=none→A1 h s=true)∧Pend B S G Lf A A1:=by
    intro k
    induction k with
    | zero=>intro _;exact .inr ⟨A,subA.rfl' _,fun h hh=>by omega,Pend.rfl' _ _ _ _ _⟩
    | succ k ihk =>
      intro hk
      rcases ihk (by omega) with h|⟨A1,hsub,hclo,hpe⟩
      · exact .inl h
      by_cases hS:S k s=none
      rotate_left
      · refine .inr ⟨A1,hsub,fun h hh hn=>?_,hpe⟩
        by_cases e:h=k
        · subst e;exact absurd hn hS
        · exact hclo h (by omega) hn
      cases hA1:A1 k s with
      | true =>
        refine .inr ⟨A1,hsub,fun h hh hn=>?_,hpe⟩
        by_cases e:h=k
        · subst e;exact hA1
        · exact hclo h (by omega) hn
      | false =>
      by_cases hfree:G k s=none∧0<Lf k
      · exact .inl ⟨_,_,_,won_free hN hs hB (by omega) hb hS hsub hA1 hfree.1 hfree.2 hv hl⟩
      have hstuck:G k s=none→Lf k=0:=fun hg=>by
        have:¬ 0<Lf k:=fun hp=>hfree ⟨hg,hp⟩
        have:=hl k (by omega)
        omega
      have hup:=ua_put (A:=A1) (h:=k) (s:=s) (by omega) hs12 hA1
      have hus:=ua_sub hsub
      have hnn:=ua_nonneg (putA A1 k s)
      have hn1:n-1<n:=by omega
      have inner:∀ j,j≤12→(∃ A' G' L',Won B N S s b A A' G G' Lf L')∨∃ Aj,subA (putA A1 k s) Aj∧Pend B S G Lf (putA A1 k s) Aj ∧
          ∀ q,q<j→(q≠s→G k s=none)→(G k q).isSome=true→Aj k q=true∧(q=s→∀ u,G k s=some u→∀ h',h'<u→S h' s=none→Aj h' s=true):=by
        intro j
        induction j with
        | zero=>intro _;exact .inr ⟨_,subA.rfl' _,Pend.rfl' _ _ _ _ _,fun q hq=>by omega⟩
        | succ j ihj =>
          intro hj
          rcases ihj (by omega) with h|⟨Aj,hsj,hpj,haj⟩
          · exact .inl h
          by_cases hrv:(j≠s→G k s=none)∧(G k j).isSome=true
          rotate_left
          · refine .inr ⟨Aj,hsj,hpj,fun q hq h1 h2=>?_⟩
            by_cases e:q=j
            · subst e;exact absurd ⟨h1,h2⟩ hrv
            · exact haj q (by omega) h1 h2
          obtain⟨hqs,hsome⟩:=hrv
          obtain⟨u,hu⟩:=Option.isSome_iff_exists.1 hsome
          by_cases hskip:j≠s∧Aj k j=true
          · refine .inr ⟨Aj,hsj,hpj,fun q hq h1 h2=>?_⟩
            by_cases e:q=j
            · subst e;exact⟨hskip.2,fun e2=>absurd e2 hskip.1⟩
            · exact haj q (by omega) h1 h2
          have hrj:j≠s→Aj k j=false:=fun hne=>by
            cases h:Aj k j with
            | false=>rfl
            | true=>exact absurd ⟨hne,h⟩ hskip
          have hvu:=hv k j u hu
          have hua:ua (putA Aj k j)≤((n-1:Nat):Int):=by
            have a1:=ua_sub (hsj.trans (sub_put Aj k j))
            omega
          rcases ih (n-1) hn1 (A:=putA Aj k j) (G:=G) (Lf:=Lf) (s:=j) (b:=u) hua hv hl hvu.2.1 hvu.2.2.1 with⟨A5,G1,L1,hw⟩|⟨A5,hlo⟩
          · exact .inl ⟨_,_,_,won_swap hN hs (by omega) hB (by omega) hb hS hsub hA1 hsj hrj hu hqs hw⟩
          · have hs5:subA Aj A5:=(sub_put Aj k j).trans hlo.sub
            have hp5:Pend B S G Lf Aj A5:=hlo.pend.unput fun _=>⟨⟨by omega,by omega,hvu.2.2.2⟩,fun u' hu' h' hh' hn'=>by
              rw [hu] at hu';cases hu'
              exact hlo.clo h' hh' hn',fun hg=>by rw [hu] at hg;cases hg⟩
            refine .inr ⟨A5,hsj.trans hs5,hpj.trans hp5 hs5,fun q hq h1 h2=>?_⟩
            by_cases e:q=j
            · subst e
              refine⟨hlo.sub _ _ (put_at _ _ _),fun e2 u' hu' h' hh' hn'=>?_⟩
              subst e2
              rw [hu] at hu';cases hu'
              exact hlo.clo h' hh' hn'
            · obtain⟨a1,a2⟩:=haj q (by omega) h1 h2
              exact⟨hs5 _ _ a1,fun e2 u' hu' h' hh' hn'=>hs5 _ _ (a2 e2 u' hu' h' hh' hn')⟩
      rcases inner 12 (Nat.le_refl _) with h|⟨A2,hs2,hp2,ha2⟩
      · exact .inl h
      · have hs3:subA A1 A2:=(sub_put _ _ _).trans hs2
        have hp3:Pend B S G Lf A1 A2:=hp2.unput fun _=>⟨⟨by omega,hs12,hS⟩,fun u hu h' hh' hn'=>(ha2 s hs12 (fun h=>absurd rfl h) (by rw [hu];rfl)).2 rfl u hu h' hh' hn',fun hg=>⟨hstuck hg,fun s' hs'=>by
          obtain⟨u,hu⟩:=Option.isSome_iff_exists.1 hs'
          have:=(hv k s' u hu).2.2.1
          exact (ha2 s' (by omega) (fun _=>hg) hs').1⟩⟩
        refine .inr ⟨A2,hsub.trans hs3,fun h hh hn=>?_,hpe.trans hp3 hs3⟩
        by_cases e:h=k
        · subst e;exact hs2 _ _ (put_at _ _ _)
        · exact hs3 _ _ (hclo h (by omega) hn)
  rcases loop b (Nat.le_refl _) with h|⟨A1,h1,h2,h3⟩
  · exact .inl h
  · exact .inr ⟨A1,h1,h2,h3⟩
open Go.Hall
theorem lackT_more {need:Nat→Int} {can:Nat→Bool} {a:Nat}:∀ {b:Nat},a≤b→lackT need can a≤lackT need can b
  | 0,h=>by
    obtain rfl:a=0:=by omega
    exact Int.le_refl _
  | b+1,h=>by
    by_cases e:a=b+1
    · subst e;exact Int.le_refl _
    · have:=lackT_more (need:=need) (can:=can) (a:=a) (b:=b) (by omega)
      simp only [lackT];omega
theorem short_more {N m M:Nat} {hands:Nat→Int} {may:Nat→Nat→Bool} {need:Nat→Nat→Int} {some:Nat→Bool} (hm:m≤M) (hs:∀ h,some h=true→h<m) (h:Short N m hands may need some):Short N M hands may need some:=by
  simp only [Short] at h ⊢
  have e:sm (fun h=>if some h=true then hands h else 0) M=sm (fun h=>if some h=true then hands h else 0) m:=sm_same hm fun i h1 h2=>if_neg fun hb=>by have:=hs i hb;omega
  rw [e]
  exact Int.lt_of_lt_of_le h (sm_le fun s _=>lackT_more hm)
structure FinG (hands:Nat→Int) (need:Nat→Nat→Int) (S:Nat→Nat→Option Bool) (h0:Nat) (G:Nat→Nat→Option Nat) (Lf:Nat→Int):Prop where
  vg:VG h0 12 S G
  nn:∀ h,h<8→0≤Lf h
  hr:∀ h,h<8→cH G h+Lf h=hands h
  i3:∀ s,s<12→∀ d,1≤d→cD G s (d-1)<cD G s d→cD G s d≤need s d
  i5:∀ d,d<h0→∀ s,s<12→need s d≤cD G s d
section
variable {hands:Nat→Int} {need:Nat→Nat→Int} {S:Nat→Nat→Option Bool} {h0:Nat} {G:Nat→Nat→Option Nat} {Lf:Nat→Int}
theorem FinG.start (hh:∀ h,h<8→0≤hands h):FinG hands need S 0 (fun _ _=>none) hands:=by
  have z:∀ s d,cD (fun _ _=>none) s d=0:=fun s d=>(sm_congr fun i _=>by simp).trans (sm_zero 8)
  have z2:∀ h,cH (fun _ _=>none) h=0:=fun h=>(sm_congr fun i _=>by simp).trans (sm_zero 12)
  exact⟨fun h s u hg=>(by cases hg),hh,fun h _=>by rw [z2];omega,fun s _ d _ hlt=>by rw [z,z] at hlt;omega,fun d hd=>by omega⟩
theorem FinG.next (h:FinG hands need S h0 G Lf) (hm:∀ s,s<12→need s h0≤cD G s h0):FinG hands need S (h0+1) G Lf :=
  ⟨fun a s u hg=>by have:=h.vg a s u hg;exact⟨this.1,by omega,this.2.2⟩,h.nn,h.hr,h.i3,fun d hd s hs=>by
    by_cases hd2:d=h0
    · subst hd2;exact hm s hs
    · exact h.i5 d (by omega) s hs⟩
theorem FinG.give (h:FinG hands need S h0 G Lf) {A A':Nat→Nat→Bool} {G':Nat→Nat→Option Nat} {L':Nat→Int} {s0:Nat} (hc:cD G s0 h0<need s0 h0) (hw:Won h0 12 S s0 h0 A A' G G' Lf L'):FinG hands need S h0 G' L':=by
  refine⟨hw.vg,hw.nn,fun k hk=>by rw [hw.hr k hk,h.hr k hk],fun s hs d hd hlt=>?_,fun d hd s hs=>?_⟩
  · rcases Nat.lt_trichotomy d h0 with h1|h1|h1
    · rw [hw.cnt,hw.cnt,if_neg (by omega),if_neg (by omega)] at hlt
      rw [hw.cnt,if_neg (by omega),Int.add_zero]
      exact h.i3 s hs d hd (by omega)
    · subst h1
      by_cases h2:s=s0
      · subst h2
        rw [hw.cnt,if_pos ⟨rfl,Nat.le_refl _⟩];omega
      · rw [hw.cnt,hw.cnt,if_neg (fun hh=>h2 hh.1),if_neg (fun hh=>h2 hh.1)] at hlt
        rw [hw.cnt,if_neg (fun hh=>h2 hh.1),Int.add_zero]
        exact h.i3 s hs d hd (by omega)
    · have:=cD_const hw.vg s (d:=d-1) (e:=d) (by omega) (by omega)
      omega
  · rw [hw.cnt,if_neg (by omega),Int.add_zero]
    exact h.i5 d hd s hs
theorem FinG.lost (h:FinG hands need S h0 G Lf) {A':Nat→Nat→Bool} {s0:Nat} (hs0:s0<12) (hh0:h0<8) (hc:cD G s0 h0<need s0 h0) (hl:Lost h0 S s0 h0 (fun _ _=>false) A' G Lf):∃ some:Nat→Bool,(∀ h,some h=true→h<8)∧Short 12 8 hands (fun h s=>(S h s).isNone) need some:=by
  have pend:=fun a s (ha:A' a s=true)=>hl.pend a s rfl ha
  have mono:∀ (p:Nat→Bool),ct p (h0+1)≤ct p 8:=fun p=>ct_mono (by omega)
  have key:=stuck_short (N:=12) (M:=h0+1) (hands:=hands) (may:=fun h s=>(S h s).isNone) (need:=need) (left:=Lf) (G:=G) (A:=fun a s=>A' a s=true) (s0:=s0) (b0:=h0) ?_ (fun k hk=>h.hr k (by omega)) ?_ ?_ ?_ (by omega) (by omega) ?_ ?_ ?_ ?_
  · obtain⟨sm',k1,k2⟩:=key
    exact⟨sm',fun h hh=>by have:=k1 h hh;omega,short_more (by omega) (fun h hh=>by have:=k1 h hh;omega) k2⟩
  · intro a s u hg
    have:=h.vg a s u hg
    refine⟨this.1,by omega,by omega,?_⟩
    show (S a s).isNone=true
    rw [this.2.2.2];rfl
  · intro a s u hg
    have:=h.vg a s u hg
    have h1:=cD_inc (by omega) hg (by omega)
    have h2:=h.i3 s this.2.2.1 u (by omega) (by omega)
    exact Int.le_trans (mono _) h2
  · exact Int.lt_of_le_of_lt (mono _) hc
  · intro a u hg;exact (h.vg a s0 u hg).2.1
  · intro a s ha;exact⟨(pend a s ha).1.1,(pend a s ha).1.2.1⟩
  · intro a ha hm;exact hl.clo a ha (Option.isNone_iff_eq_none.1 hm)
  · intro a s u ha hg a' ha' hm;exact (pend a s ha).2.1 u hg a' ha' (Option.isNone_iff_eq_none.1 hm)
  · intro a s ha hg;exact (pend a s ha).2.2 hg
theorem FinG.done (h:FinG hands need S 8 G Lf):Feas 12 8 hands (fun h s=>(S h s).isNone) need:=by
  refine⟨fun a s=>(G a s).isSome,fun a s hg=>?_,fun a ha=>?_,fun s hs d hd=>?_⟩
  · obtain⟨u,hu⟩:=Option.isSome_iff_exists.1 hg
    show (S a s).isNone=true
    rw [(h.vg a s u hu).2.2.2];rfl
  · have h1:=h.hr a ha
    have h2:=h.nn a ha
    change cH G a≤_
    omega
  · have h1:=h.i5 d hd s hs
    have h2:=cD_some h.vg s (d:=d) (by omega)
    change _≤ct (fun h=>(G h s).isSome) d
    omega
theorem FinG.one (hno:¬ ∃ some:Nat→Bool,(∀ h,some h=true→h<8)∧Short 12 8 hands (fun h s=>(S h s).isNone) need some) (hh0:h0<8) {s0:Nat} (hs0:s0<12):∀ (m:Nat) {G:Nat→Nat→Option Nat} {Lf:Nat→Int},need s0 h0-cD G s0 h0≤m→FinG hands need S h0 G Lf →
    ∃ G' Lf',FinG hands need S h0 G' Lf'∧need s0 h0≤cD G' s0 h0∧∀ s,s≠s0→cD G' s h0=cD G s h0
  | 0,G,Lf,hm,hf=>⟨G,Lf,hf,by omega,fun _ _=>rfl⟩
  | m+1,G,Lf,hm,hf=>by
    by_cases hc:cD G s0 h0<need s0 h0
    rotate_left
    · exact⟨G,Lf,hf,by omega,fun _ _=>rfl⟩
    rcases find_pure (B:=h0) (N:=12) (by omega) (Nat.le_refl _) (S:=S) 96 (A:=fun _ _=>false) (s:=s0) (b:=h0) (by decide) hf.vg hf.nn (Nat.le_refl _) hs0 with⟨A',G',L',hw⟩|⟨A',hl⟩
    · obtain⟨G2,L2,a1,a2,a3⟩:=FinG.one hno hh0 hs0 m (G:=G') (Lf:=L') (by rw [hw.cnt,if_pos ⟨rfl,Nat.le_refl _⟩];omega) (hf.give hc hw)
      refine⟨G2,L2,a1,a2,fun s hs=>?_⟩
      rw [a3 s hs,hw.cnt,if_neg (fun x=>hs x.1),Int.add_zero]
    · exact absurd (hf.lost hs0 hh0 hc hl) hno
theorem FinG.hour (hno:¬ ∃ some:Nat→Bool,(∀ h,some h=true→h<8)∧Short 12 8 hands (fun h s=>(S h s).isNone) need some) (hh0:h0<8) (hf:FinG hands need S h0 G Lf):∀ k,k≤12→∃ G' Lf',FinG hands need S h0 G' Lf'∧∀ s,s<k→need s h0≤cD G' s h0
  | 0,_=>⟨G,Lf,hf,fun s hs=>by omega⟩
  | k+1,hk=>by
    obtain⟨G1,L1,h1,h2⟩:=FinG.hour hno hh0 hf k (by omega)
    obtain⟨G2,L2,a1,a2,a3⟩:=FinG.one hno hh0 (s0:=k) (by omega) (need k h0-cD G1 k h0).toNat (G:=G1) (Lf:=L1) (by omega) h1
    refine⟨G2,L2,a1,fun s hs=>?_⟩
    by_cases e:s=k
    · subst e;exact a2
    · rw [a3 s e];exact h2 s (by omega)
theorem FinG.all (hno:¬ ∃ some:Nat→Bool,(∀ h,some h=true→h<8)∧Short 12 8 hands (fun h s=>(S h s).isNone) need some) (hh:∀ h,h<8→0≤hands h):∀ k,k≤8→∃ G Lf,FinG hands need S k G Lf
  | 0,_=>⟨_,_,FinG.start hh⟩
  | k+1,hk=>by
    obtain⟨G1,L1,h1⟩:=FinG.all hno hh k (by omega)
    obtain⟨G2,L2,a1,a2⟩:=FinG.hour hno (by omega) h1 12 (Nat.le_refl _)
    exact⟨G2,L2,a1.next a2⟩
end
theorem hall_iff {hands:Nat→Int} {need:Nat→Nat→Int} {may:Nat→Nat→Bool} (hh:∀ h,h<8→0≤hands h):Feas 12 8 hands may need↔∀ some:Nat→Bool,(∀ h,some h=true→h<8)→¬ Short 12 8 hands may need some:=by
  constructor
  · intro hf some _ hs;exact short_none hs hf
  · intro hno
    obtain⟨S,hS⟩:∃ S:Nat→Nat→Option Bool,S=fun h s=>if may h s=true then Option.none else Option.some false:=⟨_,rfl⟩
    have e:(fun h s=>(S h s).isNone)=may:=by
      funext h s
      rw [hS]
      cases hm:may h s <;> simp [hm]
    have hno2:¬ ∃ sm':Nat→Bool,(∀ h,sm' h=true→h<8)∧Short 12 8 hands (fun h s=>(S h s).isNone) need sm':=by
      rw [e]
      rintro⟨sm',h1,h2⟩
      exact hno sm' h1 h2
    obtain⟨G,Lf,h⟩:=FinG.all (S:=S) hno2 hh 8 (Nat.le_refl _)
    have h2:=h.done
    rw [e] at h2
    exact h2
end Go.Proofs
