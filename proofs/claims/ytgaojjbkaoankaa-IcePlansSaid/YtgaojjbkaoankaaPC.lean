/- Several texts as one. -/
import Derived.Test.YtgaojjbkaoankaaPB
import Derived.Test.YtgaojjbkaoankaaRA
/- What a safe plan is,by needs;and the first one with the fewest sprayings. -/
namespace Go.Proofs
open Go.Abs
attribute [local simp] AOp.den AOpd.ev lk cellsOf rd_new rd_new0 rd_zero rd_succ wr_new wr_new0 wr_zero wr_succ splice fillA binA scal sliceCells List.length_append argsT AV.sc scL AObj.sc resV getAll AR.get AOp.slots opdSlots opdsSlots partSlots eqAt at_new0 at_new set_new0 set_new wrap64
set_option linter.unusedSimpArgs false
set_option linter.unusedVariables false
open Go.Hall
theorem la_le {x y n:Int} (hy:1≤y) (hn:0≤n):laF x y≤n↔x≤y * n:=by
  simp only [laF]
  by_cases h0:0≤x+y-1
  · rw [Int.tdiv_eq_ediv_of_nonneg h0]
    constructor
    · intro h
      have h1:=Int.lt_ediv_add_one_mul_self (x+y-1) (show 0<y by omega)
      have h2:(x+y-1) / y+1≤n+1:=by omega
      have h3:=Int.mul_le_mul_of_nonneg_right h2 (show 0≤y by omega)
      rw [Int.add_mul n,Int.one_mul,Int.mul_comm n] at h3
      omega
    · intro h
      have h1:x+y-1<(n+1) * y:=by rw [Int.add_mul,Int.one_mul,Int.mul_comm n];omega
      have:=Int.ediv_lt_of_lt_mul (show 0<y by omega) h1
      omega
  · have h1:=Int.tdiv_nonneg (a:=-(x+y-1)) (b:=y) (by omega) (by omega)
    rw [Int.neg_tdiv] at h1
    have h2:=Int.mul_nonneg (show 0≤y by omega) hn
    constructor <;> intro _ <;> omega
theorem ct_mono {p:Nat→Bool} {d:Nat}:∀ {e:Nat},d≤e→ct p d≤ct p e
  | 0,h=>by
    obtain rfl:d=0:=by omega
    exact Int.le_refl _
  | e+1,h=>by
    by_cases hd:d=e+1
    · subst hd;exact Int.le_refl _
    · have:=ct_mono (p:=p) (d:=d) (e:=e) (by omega)
      have e1:ct p (e+1)=ct p e+if p e=true then 1 else 0:=rfl
      rw [e1];split <;> omega
structure GoodP (c:Cv) (Q:Nat→Nat→Bool):Prop where
  rows:∀ h,h<c.hs.length→ct (Q h) c.bs.length≤handsF c h
  needs:∀ s,s<c.bs.length→∀ d,d<c.hs.length→ndR c s d≤ct (fun h=>Q h s) d
  tot:∀ s,s<c.bs.length→ct (fun h=>Q h s) c.hs.length=ndR c s (c.hs.length-1)
theorem feas0_iff {c:Cv} (hb:c.bs.length≤12) (h8:c.hs.length≤8):feasR c (fun _ _=>none)↔∃ Q:Nat→Nat→Bool,(∀ h,h<c.hs.length→ct (Q h) c.bs.length≤handsF c h)∧∀ s,s<c.bs.length→∀ d,d<c.hs.length→ndR c s d≤ct (fun h=>Q h s) d:=by
  have h0:∀ (p:Nat),ct (fun _=>false) p=0:=fun p=>(sm_congr fun i _=>by simp).trans (sm_zero p)
  constructor
  · rintro⟨P,h1,h2,h3⟩
    refine⟨P,fun h hh=>?_,fun s hs d hd=>?_⟩
    · have a:=h2 h (by omega)
      simp only [idF,if_pos hh] at a
      have e:ct (stT (fun _ _=>none) h) c.bs.length=0:=h0 _
      rw [e] at a
      exact Int.le_trans (ct_mono (p:=P h) hb) (by omega)
    · have a:=h3 s (by omega) d (by omega)
      simp only [ndX,if_pos (And.intro hs hd)] at a
      have e:ct (fun h=>stT (fun _ _=>none) h s) d=0:=h0 _
      omega
  · rintro⟨Q,h1,h2⟩
    refine⟨fun h s=>decide (s<c.bs.length) && (decide (h<c.hs.length) && Q h s),fun _ _ _=>rfl,fun h hh=>?_,fun s hs d hd=>?_⟩
    · show ct (fun s=>decide (s<c.bs.length) && (decide (h<c.hs.length) && Q h s)) 12≤_
      rw [ct_below _ hb]
      simp only [idF]
      have e:ct (stT (fun _ _=>none) h) c.bs.length=0:=h0 _
      split
      · rename_i x
        have:=h1 h x
        simp only [x,decide_true,Bool.true_and]
        show ct (Q h) c.bs.length≤_
        omega
      · rename_i x
        simp only [x,decide_false,Bool.false_and]
        rw [h0];omega
    · simp only [ndX]
      split
      · rename_i x
        have e:ct (fun h=>stT (fun _ _=>none) h s) d=0:=h0 _
        have a:=h2 s x.1 d x.2
        have b:ct (fun h=>Q h s) d≤ct (fun h=>decide (s<c.bs.length) && (decide (h<c.hs.length) && Q h s)) d:=ct_le fun i hi hq=>by simp [x.1,hq];omega
        omega
      · exact ct_nonneg _ _
open Go.Hall
structure PS (c:Cv) (S:Nat→Nat→Option Bool) (h s:Nat):Prop where
  some:∀ a e,(S a e).isSome=true↔(a<h∨(a=h∧e<s))∧e<c.bs.length
  feas:feasR c S
  hnd:∀ a,a<8→0≤idF c S a
  tot:∀ e,e<c.bs.length→ct (fun a=>stT S a e) c.hs.length≤ndR c e (c.hs.length-1)
  fst:∀ Q,GoodP c Q→∀ a e,(a<h∨(a=h∧e<s))→e<c.bs.length→(∀ a' e',e'<c.bs.length→(a'<a∨(a'=a∧e'<e))→Q a' e'=stT S a' e')→Q a e=true→stT S a e=true
theorem PS.start {c:Cv} {n:Nat} (hc:c.ok n) (hf:feasR c (fun _ _=>none)):PS c (fun _ _=>none) 0 0:=by
  have h0:∀ (p:Nat),ct (fun _=>false) p=0:=fun p=>(sm_congr fun i _=>by simp).trans (sm_zero p)
  refine⟨fun a e=>by simp,hf,fun a ha=>?_,fun e he=>?_,fun Q hQ a e h=>by omega⟩
  · simp only [idF]
    have e:ct (stT (fun _ _=>none) a) c.bs.length=0:=h0 _
    split
    · rename_i x
      have:=hc.hok a x
      rw [← Cv.h_eq x] at this
      have h2:=this.2.2.1
      simp only [handsF]
      split <;> omega
    · omega
  · have e2:ct (fun a=>stT (fun _ _=>none) a e) c.hs.length=0:=h0 _
    have h8:=hc.hours
    have:=(ndF_bd hc he (h:=c.hs.length-1+1) (by omega)).1
    simp only [ndR];omega
theorem PS.row {c:Cv} {S:Nat→Nat→Option Bool} {h:Nat} (hp:PS c S h c.bs.length):PS c S (h+1) 0 :=
  ⟨fun a e=>by rw [hp.some];omega,hp.feas,hp.hnd,hp.tot,fun Q hQ a e h1 h2 h3 h4=>hp.fst Q hQ a e (by omega) h2 h3 h4⟩
theorem PS.none {c:Cv} {S:Nat→Nat→Option Bool} {h s:Nat} (hp:PS c S h s) {a e:Nat} (he:¬ ((a<h∨(a=h∧e<s))∧e<c.bs.length)):S a e=.none:=by
  cases hs:S a e with
  | none=>rfl
  | some b=>exact absurd ((hp.some a e).1 (by rw [hs];rfl)) he
theorem stT_some {S:Nat→Nat→Option Bool} {a e:Nat} (h:stT S a e=true):(S a e).isSome=true:=by
  simp only [stT] at h
  cases hs:S a e with
  | none=>rw [hs] at h;cases h
  | some b=>rfl
theorem PS.settle {c:Cv} {n:Nat} (hc:c.ok n) (hb:c.bs.length≤12) {S:Nat→Nat→Option Bool} {h s:Nat} (hp:PS c S h s) (hh:h<c.hs.length) (hs:s<c.bs.length) {r:Bool}
    (hr:r=true↔0<idF c S h∧ct (fun a=>stT S a s) (c.hs.length-1)<ndR c s (c.hs.length-1)∧feasR c (setS S h s true)):PS c (setS S h s r) h (s+1):=by
  have h8:=hc.hours
  have hn:∀ a,h≤a→S a s=.none:=fun a ha=>hp.none (by omega)
  have h0:=hn h (Nat.le_refl _)
  have hm:∀ d,d<c.hs.length→ndR c s d≤ndR c s (c.hs.length-1):=by
    have:∀ d e,d≤e→ndR c s d≤ndR c s e:=fun d e hde=>by
      induction e with
      | zero =>
        obtain rfl:d=0:=by omega
        exact Int.le_refl _
      | succ e ih =>
        by_cases hd:d=e+1
        · subst hd;exact Int.le_refl _
        · have a1:=ih (by omega)
          have a2:=ndF_mono c s (e+1)
          simp only [ndR] at a1 ⊢
          omega
    exact fun d hd=>this d _ (by omega)
  have old:∀ {a e},¬ (a=h∧e=s)→stT (setS S h s r) a e=stT S a e:=fun {a e} hx=>by rw [stT_put];dsimp only;rw [if_neg hx]
  refine⟨fun a e=>?_,feas_settle hh hs hb h8.2 hn hm hp.feas hr,fun a ha=>?_,fun e he=>?_,fun Q hQ a e h1 h2 h3 h4=>?_⟩
  · simp only [setS]
    split
    · rename_i x
      simp only [Option.isSome_some,true_iff]
      omega
    · rename_i x
      rw [hp.some]
      omega
  · rw [idF_put hh hs h0]
    have:=hp.hnd a ha
    split
    · rename_i x
      have:=(hr.1 x.2).1
      rw [x.1];omega
    · omega
  · by_cases hes:e=s
    · subst hes
      cases r with
      | false=>rw [stT_off h0];exact hp.tot e he
      | true =>
        have a1:=(hr.1 rfl).2.1
        rw [stT_col h0]
        have e1:ct (fun a=>stT S a e) c.hs.length=ct (fun a=>stT S a e) (c.hs.length-1)+if stT S (c.hs.length-1) e=true then 1 else 0:=by
          obtain⟨m,hm2⟩:∃ m,c.hs.length=m+1:=⟨c.hs.length-1,by omega⟩
          rw [hm2];rfl
        have e2:stT S (c.hs.length-1) e=false:=by simp [stT,hn _ (show h≤c.hs.length-1 by omega)]
        rw [e2] at e1
        rw [if_pos hh]
        simp at e1
        omega
    · rw [stT_else r hes];exact hp.tot e he
  · by_cases hx:a=h∧e=s
    · obtain⟨rfl,rfl⟩:=hx
      cases r with
      | true=>rw [stT_put];simp
      | false =>
        exfalso
        have hQS:∀ a' e',e'<c.bs.length→(a'<a∨(a'=a∧e'<e))→Q a' e'=stT S a' e':=fun a' e' y1 y2=>by
          rw [h3 a' e' y1 y2,old (by omega)]
        have hSQ:∀ a' e',stT S a' e'=true→Q a' e'=true:=fun a' e' y=>by
          have z:=(hp.some a' e').1 (stT_some y)
          rw [hQS a' e' z.2 z.1];exact y
        by_cases hl:ct (fun a=>stT S a e) (c.hs.length-1)<ndR c e (c.hs.length-1)
        · have:=feas_first (P:=fun a' e'=>decide (e'<c.bs.length) && (decide (a'<c.hs.length) && (Q a' e' && (S a' e').isNone))) hh hs hb h8.2 h0 hr rfl hl (fun a' e' y=>by simp at y;simp [y]) (fun a' ha'=>?_) (fun e' he' d hd=>?_)
          · simp [hh,hs,h4,h0] at this
          · show ct (fun e'=>decide (e'<c.bs.length) && (decide (a'<c.hs.length) && (Q a' e' && (S a' e').isNone))) 12≤_
            rw [ct_below _ hb]
            simp only [idF]
            split
            · rename_i x
              have q1:=hQ.rows a' x
              have q2:ct (fun e'=>decide (a'<c.hs.length) && (Q a' e' && (S a' e').isNone)) c.bs.length+ct (stT S a') c.bs.length≤ct (Q a') c.bs.length:=ct_split fun i _=>by
                refine⟨fun y=>?_,hSQ a' i,fun y=>?_⟩
                · simp at y;exact y.2.1
                · simp only [Bool.and_eq_true] at y
                  have y2:=stT_some y.2
                  cases hsi:S a' i with
                  | none=>rw [hsi] at y2;cases y2
                  | some b=>rw [hsi] at y;exact absurd y.1.2.2 (by simp)
              omega
            · rename_i x
              refine Int.le_of_eq ((sm_congr fun i _=>?_).trans (sm_zero _))
              simp [x]
          · simp only [ndX]
            split
            · rename_i x
              have q1:=hQ.needs e' x.1 d x.2
              have q2:ct (fun a'=>Q a' e') d≤ct (fun a'=>stT S a' e') d+ct (fun a'=>decide (e'<c.bs.length) && (decide (a'<c.hs.length) && (Q a' e' && (S a' e').isNone))) d:=ct_cover fun i hi y=>by
                cases hsi:S i e' with
                | none=>right;simp [x.1,y,hsi];omega
                | some b =>
                  left
                  have z:=(hp.some i e').1 (by rw [hsi];rfl)
                  rw [← hQS i e' z.2 z.1];exact y
              omega
            · exact ct_nonneg _ _
        · have q1:=hQ.tot e hs
          have q2:=ct_less (p:=fun a'=>Q a' e) hh h4
          have q3:ct (fun a'=>stT S a' e) c.hs.length≤ct (fun i=>Q i e && !decide (i=a)) c.hs.length:=ct_le fun i _ y=>by
            have z:=hSQ i e y
            have z2:i≠a:=fun w=>by rw [w] at y;simp [stT,h0] at y
            simp [z,z2]
          have q4:=ct_mono (p:=fun a'=>stT S a' e) (show c.hs.length-1≤c.hs.length by omega)
          omega
    · rw [old hx]
      exact hp.fst Q hQ a e (by omega) h2 (fun a' e' y1 y2=>by rw [h3 a' e' y1 y2,old (by omega)]) h4
theorem PS.good {c:Cv} {n:Nat} (hc:c.ok n) (hb:c.bs.length≤12) {S:Nat→Nat→Option Bool} (hp:PS c S c.hs.length 0):GoodP c (stT S):=by
  have h8:=hc.hours
  have hne:∀ s,s<c.bs.length→∀ d,d<c.hs.length→ndR c s d≤ct (fun h=>stT S h s) d:=fun s hs d hd=>by
    obtain⟨P,h1,_,h3⟩:=hp.feas
    have a:=h3 s (by omega) d (by omega)
    simp only [ndX,if_pos (And.intro hs hd)] at a
    have e:ct (fun h=>P h s) d=0:=(sm_congr fun i hi=>by
      refine if_neg fun hP=>?_
      have:(S i s).isNone=true:=h1 i s hP
      have k:=(hp.some i s).2 ⟨by omega,hs⟩
      cases hsi:S i s with
      | none=>rw [hsi] at k;cases k
      | some b=>rw [hsi] at this;cases this).trans (sm_zero d)
    omega
  refine⟨fun h hh=>?_,hne,fun s hs=>?_⟩
  · have:=hp.hnd h (by omega)
    simp only [idF,if_pos hh] at this
    omega
  · have a1:=hp.tot s hs
    have a2:=hne s hs (c.hs.length-1) (by omega)
    have a3:=ct_mono (p:=fun h=>stT S h s) (show c.hs.length-1≤c.hs.length by omega)
    omega
def flL (p:Nat→Bool) (i:Nat):List Int:=((List.range i).filter p).map fun (s:Nat)=>(s:Int)
theorem flL_succ (p:Nat→Bool) (i:Nat):flL p (i+1)=if p i=true then flL p i++[(i:Int)] else flL p i:=by
  simp only [flL,List.range_succ,List.filter_append,List.map_append]
  by_cases h:p i=true <;> simp [h]
theorem flL_mem {p:Nat→Bool} {i:Nat} {x:Int}:x∈flL p i↔∃ s:Nat,s<i∧p s=true∧x=s:=by
  simp only [flL,List.mem_map,List.mem_filter,List.mem_range]
  constructor
  · rintro⟨s,⟨h1,h2⟩,rfl⟩;exact⟨s,h1,h2,rfl⟩
  · rintro⟨s,h1,h2,rfl⟩;exact⟨s,⟨h1,h2⟩,rfl⟩
theorem flL_len (p:Nat→Bool):∀ i,((flL p i).length:Int)=ct p i
  | 0=>rfl
  | i+1=>by
    have ih:=flL_len p i
    have e:ct p (i+1)=ct p i+if p i=true then 1 else 0:=rfl
    rw [flL_succ,e,← ih]
    split <;> simp
theorem flL_le (p:Nat→Bool) (i:Nat):(flL p i).length≤i:=by
  have:=flL_len p i
  have:=ct_top p i
  omega
theorem flL_ok (p:Nat→Bool) {n:Nat}:∀ {i:Nat},i≤n→okL n (flL p i)
  | 0,_=>fun k hk=>by simp [flL] at hk
  | i+1,h=>by
    have ih:=flL_ok p (n:=n) (i:=i) (by omega)
    rw [flL_succ]
    split
    · refine okL_snoc ih (by omega) (by omega) fun y hy=>?_
      obtain⟨s,h1,_,rfl⟩:=flL_mem.1 hy
      omega
    · exact ih
theorem flL_congr {p q:Nat→Bool} {n:Nat} (h:∀ i,i<n→p i=q i):flL p n=flL q n:=by
  simp only [flL]
  congr 1
  apply List.filter_congr
  intro x hx
  exact h x (List.mem_range.1 hx)
theorem inP_fl {p:Nat→Nat→Bool} {n h s:Nat} (hs:s<n):inP (fun h=>flL (p h) n) h s=p h s:=by
  simp only [inP,flL_mem]
  cases hp:p h s with
  | true=>simp;exact⟨s,hs,hp,rfl⟩
  | false =>
    simp
    intro x _ hx e
    obtain rfl:s=x:=by omega
    rw [hp] at hx;cases hx
theorem GoodP.congr {c:Cv} {P Q:Nat→Nat→Bool} (h:GoodP c P) (e:∀ a s,s<c.bs.length→Q a s=P a s):GoodP c Q :=
  ⟨fun a ha=>by rw [ct_congr (q:=P a) fun i hi=>e a i hi];exact h.rows a ha,fun s hs d hd=>by rw [ct_congr (q:=fun a=>P a s) fun i _=>e i s hs];exact h.needs s hs d hd,fun s hs=>by rw [ct_congr (q:=fun a=>P a s) fun i _=>e i s hs];exact h.tot s hs⟩
theorem GoodP.okPl {c:Cv} {P:Nat→Nat→Bool} (h:GoodP c P):okPl c (fun a=>flL (P a) c.bs.length):=fun a ha=>⟨by rw [flL_len];exact h.rows a ha,flL_ok _ (Nat.le_refl _)⟩
structure BestP (c:Cv) (L:Nat→List Int):Prop where
  ok:okPl c L
  good:GoodP c (inP L)
  fst:∀ Q,GoodP c Q→∀ a e,a<c.hs.length→e<c.bs.length→(∀ a' e',e'<c.bs.length→(a'<a∨(a'=a∧e'<e))→Q a' e'=inP L a' e')→Q a e=true→inP L a e=true
theorem PS.best {c:Cv} {n:Nat} (hc:c.ok n) (hb:c.bs.length≤12) {S:Nat→Nat→Option Bool} (hp:PS c S c.hs.length 0):BestP c (fun a=>flL (stT S a) c.bs.length):=by
  have hg:=hp.good hc hb
  have e:∀ a s,s<c.bs.length→inP (fun a=>flL (stT S a) c.bs.length) a s=stT S a s:=fun a s hs=>inP_fl hs
  refine⟨hg.okPl,hg.congr e,fun Q hQ a s ha hs h1 h2=>?_⟩
  rw [e a s hs]
  exact hp.fst Q hQ a s (.inl ha) hs (fun a' e' y1 y2=>by rw [h1 a' e' y1 y2,e a' e' y1]) h2
open Go.Hall
theorem mS_none:mS (fun _ _=>none)=fun _=>none:=by funext k;simp [mS]
theorem id0 {c:Cv} {n:Nat} (hc:c.ok n) (a:Nat):0≤idF c (fun _ _=>none) a:=by
  have h0:∀ (p:Nat),ct (fun _=>false) p=0:=fun p=>(sm_congr fun i _=>by simp).trans (sm_zero p)
  simp only [idF]
  have e:ct (stT (fun _ _=>none) a) c.bs.length=0:=h0 _
  split
  · rename_i x
    have:=hc.hok a x
    rw [← Cv.h_eq x] at this
    have h2:=this.2.2.1
    simp only [handsF]
    split <;> omega
  · omega
theorem Rows.chg {H H':Heap} {box:AObj} {n:Nat} {L:Nat→List Int} {vs:Nat→AV} {G:Heap} (h:Rows H box n L vs G) (hl:H'.length=H.length):Rows H' box n L vs G:=by
  refine⟨fun k hk=>(h.at_ k hk).keep fun i hi=>?_,fun k hk i hi=>by rw [hl];exact h.lo k hk i hi,h.ne⟩
  have:=h.lo k hk i hi
  rw [List.getElem?_append_right (by omega),List.getElem?_append_right (by omega),hl]
structure PB (H:Heap) (c:Cv) (p:Plc) (nid sid:Nat) (bx:List AV) (B:AObj→Heap):Prop where
  pre:∀ o,∃ X,B o=H++X
  len:∀ o,(B o).length=sid+1
  at_:∀ o,(B o)[sid]?=some o
  set:∀ o o',(B o).set sid o'=B o'
  box:∀ o,rd (B o) H.length 0 10=some bx
  cv:∀ o,CvAt (B o) c p
  go:∀ o,GoAt (B o) (.slice nid 0 c.bs.length 1 false) c.hs.length (ndR c) c.bs.length
  sge:H.length<sid
set_option maxHeartbeats 4000000 in
theorem c_PlanV (H:Heap) (l:List Str) (c:Cv) (p:Plc) (hp:CvAt H c p) (ht:TrAt H l p) (hc:c.ok l.length) (hv:validL l) :
    ACalls Try.prog F.ice_Plan [.agg (c.av p)] H (fun v h'=>(∃ (pl:AV) (G:Heap) (L:Nat→List Int),v=.tuple [pl,.int .i64 0]∧h'=H++G∧PlAt h' pl c.hs.length L∧BestP c L)∨(StuckR c (fun _ _=>none)∧v=.tuple [.nilslice,.int .i64 8]∧h'=H)):=by
  have hp1:=hp.t
  have hp2:=rd_lt hp.b
  have hp3:=rd_lt hp.h
  have h12:=hv.1
  have hlen:=hc.len
  have h8:=hc.hours
  have k0:=fun G=>c_iCheck (H++G) l c p (hp.app G) (ht.app G) (by omega) (by omega) (by omega)
  have kn:=fun G=>c_needs (H++G) l c p (hp.app G) hc hv
  have hgo:=fun G=>goAt_of (H++G) c.hs.length (ndR c) c.bs.length []
  simp only [Cv.av] at k0 kn ⊢
  refine acalls_of ok_ice_Plan rfl fun hcl=>?_
  unfold ac_ice_Plan zo
  simp only [argsT,Nat.zero_add,Nat.reduceAdd]
  repeat (first|(with_reducible first|apply X1|apply X2|apply X8)|((with_reducible apply e_end);(simp;exact Rz))|((with_reducible apply O1);rfl;(simp (disch:=omega);exact Rz);exact Rz;(focus (first|(simp;done)|omega|(simp;omega)))))
  (with_reducible apply e_call);(simp;exact Rz);exact k0 _
  rintro _ _ ⟨rfl,e,rfl,he⟩
  obtain rfl:e=0:=by
    rcases he with h|h|h
    · exact h.2.2
    · exact absurd hv h.1
    · exact absurd hc h.2.1
  repeat (first|(with_reducible first|apply X1|apply X2|apply X5|apply X8|apply Y9)|((with_reducible apply e_end);(simp;exact Rz))|((first|((with_reducible apply O1);rfl)|((with_reducible apply P1);rfl)|((with_reducible apply P2);rfl));(simp (disch:=omega);exact Rz);exact Rz;(focus (first|(simp;done)|omega|(simp;omega))))|((with_reducible apply W3);(simp (disch:=omega);exact Rz)))
  (with_reducible apply d_call_);(simp;exact Rz);exact kn _;(focus (first|(simp;done)|(simp;omega)))
  repeat (first|(with_reducible first|apply X1|apply X2|apply X8)|((with_reducible apply d_end);(simp;exact Rz))|((first|((with_reducible apply O1);rfl)|((with_reducible apply P1);rfl)|((with_reducible apply P3);rfl)|((with_reducible apply P4);rfl));(simp (disch:=omega);exact Rz);exact Rz;(focus (first|(simp;done)|omega|(simp;omega)))))
  have hgo:=hgo [.cells [.slice p.tid p.toff p.tn 9 p.tex,.slice p.bid p.boff c.bs.length 3 p.bex,.slice p.hid p.hoff c.hs.length 5 p.hex,.int .i64 c.w1,.int .i64 c.w2,.int .i64 c.y1,.int .i64 c.y2,.int .i64 c.rate,.int .i64 c.lim,.int .i64 c.base] true]
  obtain⟨B,hB⟩:∃ B:AObj→Heap,∀ o,B o=H++(.cells [.slice p.tid p.toff p.tn 9 p.tex,.slice p.bid p.boff c.bs.length 3 p.bex,.slice p.hid p.hoff c.hs.length 5 p.hex,.int .i64 c.w1,.int .i64 c.w2,.int .i64 c.y1,.int .i64 c.y2,.int .i64 c.rate,.int .i64 c.lim,.int .i64 c.base] true :: (goO (H.length+1) c.hs.length (ndR c) c.bs.length []++[o])):=⟨_,fun _=>rfl⟩
  obtain⟨nid,hnid⟩:∃ n,n=H.length+1:=⟨_,rfl⟩
  obtain⟨sid,hsid⟩:∃ n,n=H.length+((goO (H.length+1) c.hs.length (ndR c) c.bs.length []).length+1):=⟨_,rfl⟩
  have hPB:PB H c p nid sid [AV.slice p.tid p.toff p.tn 9 p.tex,.slice p.bid p.boff c.bs.length 3 p.bex,.slice p.hid p.hoff c.hs.length 5 p.hex,.int .i64 c.w1,.int .i64 c.w2,.int .i64 c.y1,.int .i64 c.y2,.int .i64 c.rate,.int .i64 c.lim,.int .i64 c.base] B:=by
    have hBl:∀ o,(B o).length=sid+1:=fun o=>by rw [hB,hsid];simp;omega
    have hat:∀ o,B o=(H++(.cells [.slice p.tid p.toff p.tn 9 p.tex,.slice p.bid p.boff c.bs.length 3 p.bex,.slice p.hid p.hoff c.hs.length 5 p.hex,.int .i64 c.w1,.int .i64 c.w2,.int .i64 c.y1,.int .i64 c.y2,.int .i64 c.rate,.int .i64 c.lim,.int .i64 c.base] true :: goO (H.length+1) c.hs.length (ndR c) c.bs.length []))++[o]:=fun o=>by rw [hB];simp
    have hll:(H++(.cells [.slice p.tid p.toff p.tn 9 p.tex,.slice p.bid p.boff c.bs.length 3 p.bex,.slice p.hid p.hoff c.hs.length 5 p.hex,.int .i64 c.w1,.int .i64 c.w2,.int .i64 c.y1,.int .i64 c.y2,.int .i64 c.rate,.int .i64 c.lim,.int .i64 c.base] true :: goO (H.length+1) c.hs.length (ndR c) c.bs.length [])).length=sid:=by rw [hsid];simp
    refine⟨fun o=>⟨_,hB o⟩,hBl,fun o=>?_,fun o o'=>?_,fun o=>?_,fun o=>?_,fun o=>?_,by omega⟩
    · rw [hat,← hll];simp
    · rw [hat,hat,← hll];simp
    · rw [hB];simp
    · rw [hB];exact hp.app _
    · have:=hgo.app [o]
      rw [hB,hnid];simpa using this
  have e0:∀ Y,H++.cells [.slice p.tid p.toff p.tn 9 p.tex,.slice p.bid p.boff c.bs.length 3 p.bex,.slice p.hid p.hoff c.hs.length 5 p.hex,.int .i64 c.w1,.int .i64 c.w2,.int .i64 c.y1,.int .i64 c.y2,.int .i64 c.rate,.int .i64 c.lim,.int .i64 c.base] true :: (goO (H.length+1) c.hs.length (ndR c) c.bs.length []++.other (OObj.map [] [] 0) :: Y)=B (.other (OObj.map [] [] 0))++Y:=fun Y=>by rw [hB];simp
  have hm0:PMap (.other (OObj.map [] [] 0)) (mS fun _ _=>none):=by rw [mS_none];exact PMap.nil
  rw [e0,← hsid,← hnid]
  have hsl:H.length<sid:=hPB.sge
  have hnl:nid<sid:=by rw [hnid,hsid];simp [goO]
  generalize AObj.other (OObj.map [] [] 0)=o0 at hm0 ⊢
  have kf:=fun G=>c_finishes (B o0++G) c p ((hPB.cv o0).app G) _ hc (by omega) nid ((hPB.go o0).app G) sid (fun _ _=>none) ⟨o0,at_old G (hPB.at_ o0),hm0⟩ fun a _=>id0 hc a
  have ks:=fun o S G (hm:PMap o (mS S))=>c_settle (B o++G) c p ((hPB.cv o).app G) _ hc (by omega) nid ((hPB.go o).app G) sid S ⟨o,at_old G (hPB.at_ o),hm⟩
  simp only [rosV,Cv.av,List.cons_append,List.nil_append] at kf ks
  have hBl:=fun o=>hPB.len o
  have hbx:=fun (o:AObj) (Y:Heap)=>(rd_old Y (show H.length<(B o).length by rw [hBl];omega) 0 10).trans (hPB.box o)
  have hb1:=fun o Y=>rd_sub' (hbx o Y) 1 1 (by omega)
  have hb2:=fun o Y=>rd_sub' (hbx o Y) 2 1 (by omega)
  simp only [List.drop_succ_cons,List.drop_zero,List.take_succ_cons,List.take_zero,Nat.zero_add] at hb1 hb2
  have e1:H.length+((goO nid c.hs.length (ndR c) c.bs.length []).length+1+1)=sid+1:=by rw [hsid,hnid];omega
  rw [e1]
  (with_reducible apply e_call);(simp;exact Rz);exact kf _
  rintro _ _ ⟨r,rfl,hr,hst,rfl⟩
  obtain⟨X0,hX0⟩:=hPB.pre o0
  cases r with
  | false =>
    repeat (first|(with_reducible first|apply X1|apply X2|apply X3|apply X8|apply X9)|((with_reducible apply e_end);(simp;exact Rz))|((with_reducible apply O1);rfl;(simp (disch:=omega);exact Rz);exact Rz;(focus (first|(simp;done)|omega|(simp;omega))))|((with_reducible apply Z9);(simp (disch:=omega);exact Rz)))
    rw [hX0,List.append_assoc]
    exact q_drop (.inr rfl) (by simp;exact Rz) (by simp [AV.sc,scL]) (.inr ⟨hst rfl,rfl,rfl⟩)
  | true =>
    have hP0:=PS.start hc (hr.1 rfl)
    have hbr:∀ o Y,rd (B o++(.cells [AV.slice p.tid p.toff p.tn 9 p.tex,.slice p.bid p.boff c.bs.length 3 p.bex,.slice p.hid p.hoff c.hs.length 5 p.hex,.int .i64 c.w1,.int .i64 c.w2,.int .i64 c.y1,.int .i64 c.y2,.int .i64 c.rate,.int .i64 c.lim,.int .i64 c.base,.slice nid 0 c.bs.length 1 false,.map sid] true) :: Y) (sid+1) 0 12=some [AV.slice p.tid p.toff p.tn 9 p.tex,.slice p.bid p.boff c.bs.length 3 p.bex,.slice p.hid p.hoff c.hs.length 5 p.hex,.int .i64 c.w1,.int .i64 c.w2,.int .i64 c.y1,.int .i64 c.y2,.int .i64 c.rate,.int .i64 c.lim,.int .i64 c.base,.slice nid 0 c.bs.length 1 false,.map sid]:=fun o Y=>by rw [← hBl o];simp
    obtain⟨rx,hrx⟩:∃ rx,rx=(.cells [AV.slice p.tid p.toff p.tn 9 p.tex,.slice p.bid p.boff c.bs.length 3 p.bex,.slice p.hid p.hoff c.hs.length 5 p.hex,.int .i64 c.w1,.int .i64 c.w2,.int .i64 c.y1,.int .i64 c.y2,.int .i64 c.rate,.int .i64 c.lim,.int .i64 c.base,.slice nid 0 c.bs.length 1 false,.map sid] true:AObj):=⟨_,rfl⟩
    rw [← hrx] at hbr ⊢
    repeat (first|(with_reducible first|apply X1|apply X2|apply X5|apply X6|apply X8)|((with_reducible apply e_end);(simp;exact Rz))|((with_reducible apply O1);rfl;(simp (disch:=omega) [hb2];exact Rz);exact Rz;(focus (first|(simp;done)|omega|(simp;omega))))|((with_reducible apply W3);(simp (disch:=omega) [hb2];exact Rz)))
    rw [rwV_nil]
    refine e_loop (ι:={ x:Nat × AObj × (Nat→Nat→Option Bool) × (Nat→AV) × Heap // x.1≤c.hs.length∧PMap x.2.1 (mS x.2.2.1)∧PS c x.2.2.1 x.1 0∧Rows (B x.2.1) rx c.hs.length (fun k=>if k<x.1 then flL (stT x.2.2.1 k) c.bs.length else []) x.2.2.2.1 x.2.2.2.2 })
      (fun x=>[(1,.ptr H.length 0),(5,.ptr (sid+1) 0),(6,.slice (sid+2) 0 c.hs.length 1 true),(30,.int .i64 c.hs.length),(31,.int .i64 x.1.1)])
      (fun x=>B x.1.2.1++rx :: AObj.cells (rwV x.1.2.2.2.1 c.hs.length) true :: x.1.2.2.2.2) (fun x=>c.hs.length-x.1.1) ⟨(0,o0,fun _ _=>none,fun _=>.nilslice,[]),by simp,hm0,hP0,Rows.nil _ _ _ _ (fun k _=>by simp)⟩ ?_ ?_
    · refine .inl ?_
      dsimp only
      rw [hBl]
      rfl
    · rintro⟨⟨h,o,S,vs,G⟩,hi,hm,hP,hR⟩
      dsimp only at hi hm hP hR ⊢
      by_cases hlt:h<c.hs.length
      · have hlt2:(h:Int)<c.hs.length:=by omega
        repeat (first|(with_reducible first|apply X1|apply X2|apply X5|apply X6|apply X8)|((with_reducible apply e_end);(simp;exact Rz))|((with_reducible apply O1);rfl;(simp (disch:=omega) [hlt2,hb1];exact Rz);exact Rz;(focus (first|(simp;done)|omega|(simp;omega))))|((with_reducible apply Z9);(simp (disch:=omega) [hlt2,hb1];exact Rz)))
        refine e_loop (ι:={ x:Nat × AObj × (Nat→Nat→Option Bool) × (Nat→AV) × Heap // x.1≤c.bs.length∧PMap x.2.1 (mS x.2.2.1)∧PS c x.2.2.1 h x.1∧Rows (B x.2.1) rx c.hs.length (fun k=>if k<h then flL (stT x.2.2.1 k) c.bs.length else if k=h then flL (stT x.2.2.1 h) x.1 else []) x.2.2.2.1 x.2.2.2.2 })
          (fun x=>[(1,.ptr H.length 0),(5,.ptr (sid+1) 0),(6,.slice (sid+2) 0 c.hs.length 1 true),(7,.int .i64 h),(30,.int .i64 c.hs.length),(31,.int .i64 h),(36,.int .i64 c.bs.length),(37,.int .i64 x.1.1)])
          (fun x=>B x.1.2.1++rx :: AObj.cells (rwV x.1.2.2.2.1 c.hs.length) true :: x.1.2.2.2.2) (fun x=>c.bs.length-x.1.1) ⟨(0,o,S,vs,G),by simp,hm,hP,hR.congr fun k _=>by simp [flL]⟩ ?_ ?_
        · exact .inl rfl
        · clear hm hP hR o S vs G
          rintro⟨⟨i,o,S,vs,G⟩,hi,hm,hP,hR⟩
          dsimp only at hi hm hP hR ⊢
          by_cases hil:i<c.bs.length
          · have hil2:(i:Int)<c.bs.length:=by omega
            repeat (first|(with_reducible first|apply X1|apply X2|apply X5|apply X6|apply X8)|((with_reducible apply e_end);(simp;exact Rz))|((with_reducible apply O1);rfl;(simp (disch:=omega) [hil2,hbr];exact Rz);exact Rz;(focus (first|(simp;done)|omega|(simp;omega))))|((with_reducible apply Z9);(simp (disch:=omega) [hil2,hbr];exact Rz)))
            (with_reducible apply e_call);(simp;exact Rz);exact ks o S _ hm hP.hnd h i hlt hil (hP.none (by omega))
            rintro _ _ ⟨r,o',rfl,rfl,hm',hr⟩
            have hP':=hP.settle hc (by omega) hlt hil hr
            have hR':=hR.chg (H':=B o') (by rw [hBl,hBl])
            rw [set_old (by rw [hBl];omega),hPB.set]
            have hst:∀ k s,k≠h∨s≠i→stT (setS S h i r) k s=stT S k s:=fun k s hx=>by rw [stT_put];dsimp only;rw [if_neg (by omega)]
            have hrowk:∀ k,k≠h→flL (stT (setS S h i r) k) c.bs.length=flL (stT S k) c.bs.length:=fun k hk=>flL_congr fun s _=>hst k s (.inl hk)
            have hrowh:flL (stT (setS S h i r) h) i=flL (stT S h) i:=flL_congr fun s hs=>hst h s (.inr (by omega))
            have hsi:stT (setS S h i r) h i=r:=by rw [stT_put];simp
            cases r with
            | false =>
              repeat (first|(with_reducible first|apply X2|apply X5|apply X8|apply Y2)|((with_reducible apply e_end);(simp;exact Rz))|((with_reducible apply O1);rfl;(simp (disch:=omega);exact Rz);exact Rz;(focus (first|(simp;done)|omega|(simp;omega))))|((with_reducible apply W3);(simp (disch:=omega);exact Rz)))
              refine q_again ⟨(i+1,o',setS S h i false,vs,G),hil,hm',hP',hR'.congr fun k hk=>?_⟩ (by dsimp only;omega) (.inl (by simp))
              by_cases h1:k<h
              · simp only [h1,if_true];exact hrowk k (by omega)
              · by_cases h2:k=h
                · simp only [h2,Nat.lt_irrefl,if_false,if_true,flL_succ,hsi,hrowh,Bool.false_eq_true]
                · simp only [h1,h2,if_false]
            | true =>
              have hrw:=rwV_at vs hlt
              have hrl:=rwV_length vs c.hs.length
              have hle1:h+1≤c.hs.length:=by omega
              have hRh:=hR'.at_ h hlt
              simp only [Nat.lt_irrefl,if_false,if_true] at hRh
              have hlm:=flL_le (stT S h) i
              have hBl':=hBl o'
              have e3:sid+2=(B o').length+1:=by rw [hBl]
              rw [e3]
              repeat (first|(with_reducible first|apply X2|apply X8)|((with_reducible apply e_end);(simp;exact Rz))|((with_reducible apply O1);rfl;(simp (disch:=omega) [hlt,hlt2,hrw,hrl,hle1];exact Rz);exact Rz;(focus (first|(simp;done)|omega|(simp;omega))))|((with_reducible apply Z9);(simp (disch:=omega) [hlt,hlt2,hrw,hrl,hle1];exact Rz)))
              refine e_appA (A:=B o'++[rx,.cells (rwV vs c.hs.length) true]) (G:=G++[.cells [.int .i64 (i:Int)] true])
                (cs:=iv (flL (stT S h) i)) (n:=(flL (stT S h) i).length) (m:=1) (new:=[.int .i64 (i:Int)]) (by simp) (by simp;exact Rz) (by simp;exact Rz) (by have:=hRh.app [.cells [.int .i64 (i:Int)] true];simpa using this) (fun k hk=>by have:=hR'.lo h hlt k hk;simp;omega) (by simp) (by simp) (by omega) (by omega) ?_
              intro G2 v2 e3 e4 e5 e6 e7
              simp only [List.append_assoc,List.cons_append,List.nil_append] at e3 e4 e5 e6 e7 ⊢
              have e3':=e3
              obtain⟨_,⟨_,h0⟩|⟨id2,_,rfl,hh2⟩⟩:=e3'
              · omega
              have hput:=rwV_put vs hlt (.slice id2 0 ((flL (stT S h) i).length+1) 1 false)
              have hid2:(B o').length+2≤id2:=by have:=e4 id2 rfl;simpa using this
              have hid3:=e6 id2 rfl
              simp only [List.length_append,List.length_cons,List.length_nil] at hid3
              repeat (first|(with_reducible first|apply X2|apply X8|apply Y2)|((with_reducible apply e_end);(simp;exact Rz))|((first|((with_reducible apply O1);rfl)|((with_reducible apply O2);rfl));(simp (disch:=omega) [hlt,hlt2,hrl,hle1,-splice,hput];exact Rz);exact Rz;(focus (first|(simp;done)|omega|(simp;omega)))))
              refine q_again ⟨(i+1,o',setS S h i true,updV vs h (.slice id2 0 ((flL (stT S h) i).length+1) 1 false),G2),hil,hm',hP',?_⟩ (by dsimp only;omega) (.inl (by simp [hBl]))
              have old:∀ k,k<c.hs.length→∀ i,isId (vs k) i→i<(B o').length+(G.length+2):=fun k hk i hi=>by
                have:=(hR'.at_ k hk).l.lt hi
                simp at this;omega
              refine⟨fun k hk=>?_,fun k hk i hi=>?_,fun k j hk hj hne i hi hi2=>?_⟩
              · by_cases hkh:k=h
                · subst hkh
                  simp only [updV,if_true,Nat.lt_irrefl,if_false,flL_succ,hsi,hrowh,iv_app,List.length_append]
                  refine e3.keep fun i hi=>get3 ?_
                  have:id2=i:=hi
                  omega
                · simp only [updV,if_neg hkh]
                  have:=hR'.at_ k hk
                  simp only [if_neg hkh] at this
                  rw [hrowk k hkh]
                  refine this.keep fun q hq=>?_
                  have l1:=hR'.lo k hk q hq
                  have l2:=old k hk q hq
                  have l3:=hR'.ne k h hk hlt hkh q hq
                  rw [get3 (b':=AObj.cells (rwV vs c.hs.length) true) l1,e5 q (by simp;omega) l3,get4 l2]
              · by_cases hkh:k=h
                · simp only [updV,if_pos hkh] at hi
                  have:id2=i:=hi
                  show (B o').length+2≤i
                  omega
                · simp only [updV,if_neg hkh] at hi
                  exact hR'.lo k hk i hi
              · by_cases hkh:k=h
                · by_cases hjh:j=h
                  · omega
                  · simp only [updV,if_pos hkh,if_neg hjh] at hi hi2
                    have:id2=i:=hi
                    have:=old j hj i hi2
                    omega
                · by_cases hjh:j=h
                  · simp only [updV,if_neg hkh,if_pos hjh] at hi hi2
                    have:id2=i:=hi2
                    have:=old k hk i hi
                    omega
                  · simp only [updV,if_neg hkh,if_neg hjh] at hi hi2
                    exact hR'.ne k j hk hj hne i hi hi2
          · have hil2:¬ (i:Int)<c.bs.length:=by omega
            obtain rfl:i=c.bs.length:=by omega
            repeat (first|(with_reducible first|apply X1|apply X2|apply X4|apply X8|apply Y1|apply Y2|apply Y4|apply Y6)|((with_reducible apply e_end);(simp;exact Rz))|((with_reducible apply O1);rfl;(simp (disch:=omega) [hil2];exact Rz);exact Rz;(focus (first|(simp;done)|omega|(simp;omega))))|((with_reducible apply W3);(simp (disch:=omega) [hil2];exact Rz)))
            refine q_again ⟨(h+1,o,S,vs,G),hlt,hm,hP.row,hR.congr fun k hk=>?_⟩ (by dsimp only;omega) (.inl (by simp))
            by_cases h1:k<h
            · simp [h1,show k<h+1 by omega]
            · by_cases h2:k=h
              · simp [h2]
              · simp [h1,h2,show ¬ k<h+1 by omega]
      · have hlt2:¬ (h:Int)<c.hs.length:=by omega
        obtain rfl:h=c.hs.length:=by omega
        repeat (first|(with_reducible first|apply X1|apply X2|apply X3|apply X4|apply X8|apply Y1|apply Y4|apply Y6)|((with_reducible apply e_end);(simp;exact Rz))|((with_reducible apply O1);rfl;(simp (disch:=omega) [hlt2];exact Rz);exact Rz;(focus (first|(simp;done)|omega|(simp;omega))))|((with_reducible apply W3);(simp (disch:=omega) [hlt2];exact Rz)))
        obtain⟨X1,hX1⟩:=hPB.pre o
        have hpl:PlAt (B o++rx :: AObj.cells (rwV vs c.hs.length) true :: G) (.slice (sid+2) 0 c.hs.length 1 true) c.hs.length (fun k=>flL (stT S k) c.bs.length):=by
          refine⟨sid+2,0,true,vs,rfl,?_,fun k hk=>?_⟩
          · have:=rwV_length vs c.hs.length
            have e3:sid+2=(B o).length+1:=by rw [hBl]
            rw [e3]
            simp only [rd_new,rd_succ,rd_zero,this,Nat.mul_one,Nat.zero_add,Nat.le_refl,if_true,List.drop_zero]
            rw [List.take_of_length_le (by omega)];rfl
          · have:=(hR.at_ k hk).l.r
            simp only [hk,if_true] at this
            exact this
        exact q_stay (.inr rfl) (by simp;exact Rz) (.inl ⟨_,X1++rx :: AObj.cells (rwV vs c.hs.length) true :: G,_,rfl,by rw [hX1,List.append_assoc],hpl,hP.best hc (by omega)⟩)
open Go.Hall
theorem ex_bits (f:Nat→Bool):∀ k,∃ n,n<2 ^ k∧∀ h,n.testBit h=(decide (h<k) && f h)
  | 0=>⟨0,by simp,fun h=>by simp⟩
  | k+1=>by
    obtain⟨n,h1,h2⟩:=ex_bits f k
    have h3:2 ^ (k+1)=2 ^ k+2 ^ k:=by rw [Nat.pow_succ];omega
    cases hf:f k with
    | false =>
      refine⟨n,by omega,fun h=>?_⟩
      rw [h2]
      by_cases e:h=k
      · subst e;simp [hf]
      · have:(h<k)↔(h<k+1):=by omega
        simp [this]
    | true =>
      refine⟨2 ^ k+n,by omega,fun h=>?_⟩
      rcases Nat.lt_trichotomy h k with e|e|e
      · rw [Nat.testBit_two_pow_add_gt e,h2];simp [e,show h<k+1 by omega]
      · subst e
        rw [Nat.testBit_two_pow_add_eq,h2];simp [hf]
      · have h4:2 ^ (k+1)≤2 ^ h:=Nat.pow_le_pow_right (by omega) (by omega)
        rw [Nat.testBit_lt_two_pow (by omega)]
        simp [show ¬ h<k+1 by omega]
theorem bit_lt {set last h:Nat} (hs:set<2 ^ last) (hb:set.testBit h=true):h<last:=by
  rcases Nat.lt_or_ge h last with e|e
  · exact e
  · have:2 ^ last≤2 ^ h:=Nat.pow_le_pow_right (by omega) e
    rw [Nat.testBit_lt_two_pow (by omega)] at hb;cases hb
theorem shL_mem {c:Cv} {last x:Nat}:∀ {k:Nat},x∈shL c last k↔x<k∧shB c last x=true
  | 0=>by simp [shL]
  | k+1=>by
    simp only [shL,List.mem_append,shL_mem (k:=k)]
    constructor
    · rintro (h|h)
      · exact⟨by omega,h.2⟩
      · split at h
        · simp at h;subst h;exact⟨by omega,‹_›⟩
        · simp at h
    · rintro⟨h1,h2⟩
      by_cases e:x=k
      · subst e;right;simp [h2]
      · exact .inl ⟨by omega,h2⟩
theorem lackT_congr {n1 n2:Nat→Int} {c1 c2:Nat→Bool}:∀ {m:Nat},(∀ i,i<m→n1 i=n2 i)→(∀ i,i+1<m→c1 i=c2 i)→lackT n1 c1 m=lackT n2 c2 m
  | 0,_,_=>rfl
  | m+1,h1,h2=>by
    simp only [lackT]
    rw [lackT_congr (m:=m) (fun i hi=>h1 i (by omega)) (fun i hi=>h2 i (by omega)),h1 m (by omega),ct_congr (q:=c2) fun i hi=>h2 i (by omega)]
theorem sm_same {f:Nat→Int} {a:Nat}:∀ {b:Nat},a≤b→(∀ i,a≤i→i<b→f i=0)→sm f b=sm f a
  | 0,hb,_=>by
    obtain rfl:a=0:=by omega
    rfl
  | b+1,hb,h=>by
    by_cases e:a=b+1
    · subst e;rfl
    · have:=sm_same (f:=f) (a:=a) (b:=b) (by omega) fun i h1 h2=>h i h1 (by omega)
      have:=h b (by omega) (by omega)
      simp only [sm];omega
theorem idF_none (c:Cv) (h:Nat):idF c (fun _ _=>none) h=if h<c.hs.length then handsF c h else 0:=by
  have e:ct (stT (fun _ _=>none) h) c.bs.length=0:=(sm_congr fun i _=>by simp [stT]).trans (sm_zero _)
  simp only [idF]
  rw [e,Int.sub_zero]
theorem shOf_set {c:Cv} {last:Nat} (h:0<shN c last):∃ set,set<2 ^ last∧shB c last set=true∧shOf c last=memL set 8:=by
  have h1:=fstI_le (shW c last (2 ^ last)) (shN c last-1)
  have h2:fstI (shW c last (2 ^ last)) (shN c last-1)<(shL c last (2 ^ last)).length:=by
    have:shN c last=(shL c last (2 ^ last)).length:=rfl
    omega
  have h3:=shL_mem.1 (List.getElem_mem h2)
  refine⟨_,h3.1,h3.2,?_⟩
  simp only [shOf,shW,List.getD_eq_getElem?_getD,List.getElem?_eq_getElem h2,Option.getD_some]
theorem avL_z0 (n:Nat):List.replicate n (AV.int .i64 0)=avL (fun _=>0) n:=by
  induction n with
  | zero=>rfl
  | succ n ih=>rw [List.replicate_succ',ih];simp [avL,List.range_succ]
end Go.Proofs
