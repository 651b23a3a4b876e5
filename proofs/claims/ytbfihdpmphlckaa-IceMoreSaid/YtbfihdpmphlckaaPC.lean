/- Several texts as one. -/
import Derived.Test.YtbfihdpmphlckaaPB
import Derived.Test.YtbfihdpmphlckaaRA
import Derived.Test.YtbfihdpmphlckaaR5
/- What a safe plan is,by needs; and the first one with the fewest sprayings. -/
namespace Go.Proofs
open Go.Abs
attribute [local simp] AOp.den AOpd.ev lk cellsOf rd_new rd_new0 rd_zero rd_succ wr_new wr_new0 wr_zero wr_succ splice fillA binA scal sliceCells List.length_append argsT AV.sc scL AObj.sc resV getAll AR.get AOp.slots opdSlots opdsSlots partSlots eqAt at_new0 at_new set_new0 set_new wrap64
set_option linter.unusedSimpArgs false
set_option linter.unusedVariables false
open Go.Hall
theorem la_le {x y n : Int} (hy : 1≤y) (hn : 0≤n) : laF x y≤n↔x≤y * n:=by
  simp only [laF]
  by_cases h0 : 0≤x+y - 1
  · rw [Int.tdiv_eq_ediv_of_nonneg h0]
    constructor
    · intro h
      have h1:=Int.lt_ediv_add_one_mul_self (x+y - 1) (show 0 < y by omega)
      have h2 : (x+y - 1) / y+1≤n+1:=by omega
      have h3:=Int.mul_le_mul_of_nonneg_right h2 (show 0≤y by omega)
      rw [Int.add_mul n,Int.one_mul,Int.mul_comm n] at h3
      omega
    · intro h
      have h1 : x+y - 1 < (n+1) * y:=by rw [Int.add_mul,Int.one_mul,Int.mul_comm n]; omega
      have:=Int.ediv_lt_of_lt_mul (show 0 < y by omega) h1
      omega
  · have h1:=Int.tdiv_nonneg (a:=-(x+y - 1)) (b:=y) (by omega) (by omega)
    rw [Int.neg_tdiv] at h1
    have h2:=Int.mul_nonneg (show 0≤y by omega) hn
    constructor <;> intro _ <;> omega
theorem ct_mono {p : Nat→Bool} {d : Nat} : ∀ {e : Nat},d≤e→ct p d≤ct p e
  | 0,h=>by
    obtain rfl : d=0:=by omega
    exact Int.le_refl _
  | e+1,h=>by
    by_cases hd : d=e+1
    · subst hd; exact Int.le_refl _
    · have:=ct_mono (p:=p) (d:=d) (e:=e) (by omega)
      have e1 : ct p (e+1)=ct p e+if p e=true then 1 else 0:=rfl
      rw [e1]; split <;> omega
structure GoodP (c : Cv) (Q : Nat→Nat→Bool) : Prop where
  rows : ∀ h,h < c.hs.length→ct (Q h) c.bs.length≤handsF c h
  needs : ∀ s,s < c.bs.length→∀ d,d < c.hs.length→ndR c s d≤ct (fun h=>Q h s) d
  tot : ∀ s,s < c.bs.length→ct (fun h=>Q h s) c.hs.length=ndR c s (c.hs.length - 1)
theorem feas0_iff {c : Cv} (hb : c.bs.length≤12) (h8 : c.hs.length≤8) : feasR c (fun _ _=>none)↔∃ Q : Nat→Nat→Bool,(∀ h,h < c.hs.length→ct (Q h) c.bs.length≤handsF c h)∧∀ s,s < c.bs.length→∀ d,d < c.hs.length→ndR c s d≤ct (fun h=>Q h s) d:=by
  have h0 : ∀ (p : Nat),ct (fun _=>false) p=0:=fun p=>(sm_congr fun i _=>by simp).trans (sm_zero p)
  constructor
  · rintro ⟨P,h1,h2,h3⟩
    refine ⟨P,fun h hh=>?_,fun s hs d hd=>?_⟩
    · have a:=h2 h (by omega)
      simp only [idF,if_pos hh] at a
      have e : ct (stT (fun _ _=>none) h) c.bs.length=0:=h0 _
      rw [e] at a
      exact Int.le_trans (ct_mono (p:=P h) hb) (by omega)
    · have a:=h3 s (by omega) d (by omega)
      simp only [ndX,if_pos (And.intro hs hd)] at a
      have e : ct (fun h=>stT (fun _ _=>none) h s) d=0:=h0 _
      omega
  · rintro ⟨Q,h1,h2⟩
    refine ⟨fun h s=>decide (s < c.bs.length) && (decide (h < c.hs.length) && Q h s),fun _ _ _=>rfl,fun h hh=>?_,fun s hs d hd=>?_⟩
    · show ct (fun s=>decide (s < c.bs.length) && (decide (h < c.hs.length) && Q h s)) 12≤_
      rw [ct_below _ hb]
      simp only [idF]
      have e : ct (stT (fun _ _=>none) h) c.bs.length=0:=h0 _
      split
      · rename_i x
        have:=h1 h x
        simp only [x,decide_true,Bool.true_and]
        show ct (Q h) c.bs.length≤_
        omega
      · rename_i x
        simp only [x,decide_false,Bool.false_and]
        rw [h0]; omega
    · simp only [ndX]
      split
      · rename_i x
        have e : ct (fun h=>stT (fun _ _=>none) h s) d=0:=h0 _
        have a:=h2 s x.1 d x.2
        have b : ct (fun h=>Q h s) d≤ct (fun h=>decide (s < c.bs.length) && (decide (h < c.hs.length) && Q h s)) d:=ct_le fun i hi hq=>by simp [x.1,hq]; omega
        omega
      · exact ct_nonneg _ _
open Go.Hall
structure PS (c : Cv) (S : Nat→Nat→Option Bool) (h s : Nat) : Prop where
  some : ∀ a e,(S a e).isSome=true↔(a < h∨(a=h∧e < s))∧e < c.bs.length
  feas : feasR c S
  hnd : ∀ a,a < 8→0≤idF c S a
  tot : ∀ e,e < c.bs.length→ct (fun a=>stT S a e) c.hs.length≤ndR c e (c.hs.length - 1)
  fst : ∀ Q,GoodP c Q→∀ a e,(a < h∨(a=h∧e < s))→e < c.bs.length→(∀ a' e',e' < c.bs.length→(a' < a∨(a'=a∧e' < e))→Q a' e'=stT S a' e')→Q a e=true→stT S a e=true
theorem PS.start {c : Cv} {n : Nat} (hc : c.ok n) (hf : feasR c (fun _ _=>none)) : PS c (fun _ _=>none) 0 0:=by
  have h0 : ∀ (p : Nat),ct (fun _=>false) p=0:=fun p=>(sm_congr fun i _=>by simp).trans (sm_zero p)
  refine ⟨fun a e=>by simp,hf,fun a ha=>?_,fun e he=>?_,fun Q hQ a e h=>by omega⟩
  · simp only [idF]
    have e : ct (stT (fun _ _=>none) a) c.bs.length=0:=h0 _
    split
    · rename_i x
      have:=hc.hok a x
      rw [← Cv.h_eq x] at this
      have h2:=this.2.2.1
      simp only [handsF]
      split <;> omega
    · omega
  · have e2 : ct (fun a=>stT (fun _ _=>none) a e) c.hs.length=0:=h0 _
    have h8:=hc.hours
    have:=(ndF_bd hc he (h:=c.hs.length - 1+1) (by omega)).1
    simp only [ndR]; omega
theorem PS.row {c : Cv} {S : Nat→Nat→Option Bool} {h : Nat} (hp : PS c S h c.bs.length) : PS c S (h+1) 0 :=
  ⟨fun a e=>by rw [hp.some]; omega,hp.feas,hp.hnd,hp.tot,fun Q hQ a e h1 h2 h3 h4=>hp.fst Q hQ a e (by omega) h2 h3 h4⟩
theorem PS.none {c : Cv} {S : Nat→Nat→Option Bool} {h s : Nat} (hp : PS c S h s) {a e : Nat} (he : ¬ ((a < h∨(a=h∧e < s))∧e < c.bs.length)) : S a e=.none:=by
  cases hs : S a e with
  | none=>rfl
  | some b=>exact absurd ((hp.some a e).1 (by rw [hs]; rfl)) he
theorem stT_some {S : Nat→Nat→Option Bool} {a e : Nat} (h : stT S a e=true) : (S a e).isSome=true:=by
  simp only [stT] at h
  cases hs : S a e with
  | none=>rw [hs] at h; cases h
  | some b=>rfl
theorem PS.settle {c : Cv} {n : Nat} (hc : c.ok n) (hb : c.bs.length≤12) {S : Nat→Nat→Option Bool} {h s : Nat} (hp : PS c S h s) (hh : h < c.hs.length) (hs : s < c.bs.length) {r : Bool}
    (hr : r=true↔0 < idF c S h∧ct (fun a=>stT S a s) (c.hs.length - 1) < ndR c s (c.hs.length - 1)∧feasR c (setS S h s true)) : PS c (setS S h s r) h (s+1):=by
  have h8:=hc.hours
  have hn : ∀ a,h≤a→S a s=.none:=fun a ha=>hp.none (by omega)
  have h0:=hn h (Nat.le_refl _)
  have hm : ∀ d,d < c.hs.length→ndR c s d≤ndR c s (c.hs.length - 1):=by
    have : ∀ d e,d≤e→ndR c s d≤ndR c s e:=fun d e hde=>by
      induction e with
      | zero =>
        obtain rfl : d=0:=by omega
        exact Int.le_refl _
      | succ e ih =>
        by_cases hd : d=e+1
        · subst hd; exact Int.le_refl _
        · have a1:=ih (by omega)
          have a2:=ndF_mono c s (e+1)
          simp only [ndR] at a1 ⊢
          omega
    exact fun d hd=>this d _ (by omega)
  have old : ∀ {a e},¬ (a=h∧e=s)→stT (setS S h s r) a e=stT S a e:=fun {a e} hx=>by rw [stT_put]; dsimp only; rw [if_neg hx]
  refine ⟨fun a e=>?_,feas_settle hh hs hb h8.2 hn hm hp.feas hr,fun a ha=>?_,fun e he=>?_,fun Q hQ a e h1 h2 h3 h4=>?_⟩
  · simp only [setS]
    split
    · rename_i x
      simp only [Option.isSome_some,true_iff]
      omega
    · rename_i x
      rw [hp.some]
      omega
  · rw [idF_put hh hs h0]
    have:=hp.hnd a ha
    split
    · rename_i x
      have:=(hr.1 x.2).1
      rw [x.1]; omega
    · omega
  · by_cases hes : e=s
    · subst hes
      cases r with
      | false=>rw [stT_off h0]; exact hp.tot e he
      | true =>
        have a1:=(hr.1 rfl).2.1
        rw [stT_col h0]
        have e1 : ct (fun a=>stT S a e) c.hs.length=ct (fun a=>stT S a e) (c.hs.length - 1)+if stT S (c.hs.length - 1) e=true then 1 else 0:=by
          obtain ⟨m,hm2⟩ : ∃ m,c.hs.length=m+1:=⟨c.hs.length - 1,by omega⟩
          rw [hm2]; rfl
        have e2 : stT S (c.hs.length - 1) e=false:=by simp [stT,hn _ (show h≤c.hs.length - 1 by omega)]
        rw [e2] at e1
        rw [if_pos hh]
        simp at e1
        omega
    · rw [stT_else r hes]; exact hp.tot e he
  · by_cases hx : a=h∧e=s
    · obtain ⟨rfl,rfl⟩:=hx
      cases r with
      | true=>rw [stT_put]; simp
      | false =>
        exfalso
        have hQS : ∀ a' e',e' < c.bs.length→(a' < a∨(a'=a∧e' < e))→Q a' e'=stT S a' e':=fun a' e' y1 y2=>by
          rw [h3 a' e' y1 y2,old (by omega)]
        have hSQ : ∀ a' e',stT S a' e'=true→Q a' e'=true:=fun a' e' y=>by
          have z:=(hp.some a' e').1 (stT_some y)
          rw [hQS a' e' z.2 z.1]; exact y
        by_cases hl : ct (fun a=>stT S a e) (c.hs.length - 1) < ndR c e (c.hs.length - 1)
        · have:=feas_first (P:=fun a' e'=>decide (e' < c.bs.length) && (decide (a' < c.hs.length) && (Q a' e' && (S a' e').isNone))) hh hs hb h8.2 h0 hr rfl hl (fun a' e' y=>by simp at y; simp [y]) (fun a' ha'=>?_) (fun e' he' d hd=>?_)
          · simp [hh,hs,h4,h0] at this
          · show ct (fun e'=>decide (e' < c.bs.length) && (decide (a' < c.hs.length) && (Q a' e' && (S a' e').isNone))) 12≤_
            rw [ct_below _ hb]
            simp only [idF]
            split
            · rename_i x
              have q1:=hQ.rows a' x
              have q2 : ct (fun e'=>decide (a' < c.hs.length) && (Q a' e' && (S a' e').isNone)) c.bs.length+ct (stT S a') c.bs.length≤ct (Q a') c.bs.length:=ct_split fun i _=>by
                refine ⟨fun y=>?_,hSQ a' i,fun y=>?_⟩
                · simp at y; exact y.2.1
                · simp only [Bool.and_eq_true] at y
                  have y2:=stT_some y.2
                  cases hsi : S a' i with
                  | none=>rw [hsi] at y2; cases y2
                  | some b=>rw [hsi] at y; exact absurd y.1.2.2 (by simp)
              omega
            · rename_i x
              refine Int.le_of_eq ((sm_congr fun i _=>?_).trans (sm_zero _))
              simp [x]
          · simp only [ndX]
            split
            · rename_i x
              have q1:=hQ.needs e' x.1 d x.2
              have q2 : ct (fun a'=>Q a' e') d≤ct (fun a'=>stT S a' e') d+ct (fun a'=>decide (e' < c.bs.length) && (decide (a' < c.hs.length) && (Q a' e' && (S a' e').isNone))) d:=ct_cover fun i hi y=>by
                cases hsi : S i e' with
                | none=>right; simp [x.1,y,hsi]; omega
                | some b =>
                  left
                  have z:=(hp.some i e').1 (by rw [hsi]; rfl)
                  rw [← hQS i e' z.2 z.1]; exact y
              omega
            · exact ct_nonneg _ _
        · have q1:=hQ.tot e hs
          have q2:=ct_less (p:=fun a'=>Q a' e) hh h4
          have q3 : ct (fun a'=>stT S a' e) c.hs.length≤ct (fun i=>Q i e && !decide (i=a)) c.hs.length:=ct_le fun i _ y=>by
            have z:=hSQ i e y
            have z2 : i ≠ a:=fun w=>by rw [w] at y; simp [stT,h0] at y
            simp [z,z2]
          have q4:=ct_mono (p:=fun a'=>stT S a' e) (show c.hs.length - 1≤c.hs.length by omega)
          omega
    · rw [old hx]
      exact hp.fst Q hQ a e (by omega) h2 (fun a' e' y1 y2=>by rw [h3 a' e' y1 y2,old (by omega)]) h4
theorem PS.good {c : Cv} {n : Nat} (hc : c.ok n) (hb : c.bs.length≤12) {S : Nat→Nat→Option Bool} (hp : PS c S c.hs.length 0) : GoodP c (stT S):=by
  have h8:=hc.hours
  have hne : ∀ s,s < c.bs.length→∀ d,d < c.hs.length→ndR c s d≤ct (fun h=>stT S h s) d:=fun s hs d hd=>by
    obtain ⟨P,h1,_,h3⟩:=hp.feas
    have a:=h3 s (by omega) d (by omega)
    simp only [ndX,if_pos (And.intro hs hd)] at a
    have e : ct (fun h=>P h s) d=0:=(sm_congr fun i hi=>by
      refine if_neg fun hP=>?_
      have : (S i s).isNone=true:=h1 i s hP
      have k:=(hp.some i s).2 ⟨by omega,hs⟩
      cases hsi : S i s with
      | none=>rw [hsi] at k; cases k
      | some b=>rw [hsi] at this; cases this).trans (sm_zero d)
    omega
  refine ⟨fun h hh=>?_,hne,fun s hs=>?_⟩
  · have:=hp.hnd h (by omega)
    simp only [idF,if_pos hh] at this
    omega
  · have a1:=hp.tot s hs
    have a2:=hne s hs (c.hs.length - 1) (by omega)
    have a3:=ct_mono (p:=fun h=>stT S h s) (show c.hs.length - 1≤c.hs.length by omega)
    omega
def flL (p : Nat→Bool) (i : Nat) : List Int:=((List.range i).filter p).map fun (s : Nat)=>(s : Int)
theorem flL_succ (p : Nat→Bool) (i : Nat) : flL p (i+1)=if p i=true then flL p i++[(i : Int)] else flL p i:=by
  simp only [flL,List.range_succ,List.filter_append,List.map_append]
  by_cases h : p i=true <;> simp [h]
theorem flL_mem {p : Nat→Bool} {i : Nat} {x : Int} : x ∈ flL p i↔∃ s : Nat,s < i∧p s=true∧x=s:=by
  simp only [flL,List.mem_map,List.mem_filter,List.mem_range]
  constructor
  · rintro ⟨s,⟨h1,h2⟩,rfl⟩; exact ⟨s,h1,h2,rfl⟩
  · rintro ⟨s,h1,h2,rfl⟩; exact ⟨s,⟨h1,h2⟩,rfl⟩
theorem flL_len (p : Nat→Bool) : ∀ i,((flL p i).length : Int)=ct p i
  | 0=>rfl
  | i+1=>by
    have ih:=flL_len p i
    have e : ct p (i+1)=ct p i+if p i=true then 1 else 0:=rfl
    rw [flL_succ,e,← ih]
    split <;> simp
theorem flL_le (p : Nat→Bool) (i : Nat) : (flL p i).length≤i:=by
  have:=flL_len p i
  have:=ct_top p i
  omega
theorem flL_ok (p : Nat→Bool) {n : Nat} : ∀ {i : Nat},i≤n→okL n (flL p i)
  | 0,_=>fun k hk=>by simp [flL] at hk
  | i+1,h=>by
    have ih:=flL_ok p (n:=n) (i:=i) (by omega)
    rw [flL_succ]
    split
    · refine okL_snoc ih (by omega) (by omega) fun y hy=>?_
      obtain ⟨s,h1,_,rfl⟩:=flL_mem.1 hy
      omega
    · exact ih
theorem flL_congr {p q : Nat→Bool} {n : Nat} (h : ∀ i,i < n→p i=q i) : flL p n=flL q n:=by
  simp only [flL]
  congr 1
  apply List.filter_congr
  intro x hx
  exact h x (List.mem_range.1 hx)
theorem inP_fl {p : Nat→Nat→Bool} {n h s : Nat} (hs : s < n) : inP (fun h=>flL (p h) n) h s=p h s:=by
  simp only [inP,flL_mem]
  cases hp : p h s with
  | true=>simp; exact ⟨s,hs,hp,rfl⟩
  | false =>
    simp
    intro x _ hx e
    obtain rfl : s=x:=by omega
    rw [hp] at hx; cases hx
theorem GoodP.congr {c : Cv} {P Q : Nat→Nat→Bool} (h : GoodP c P) (e : ∀ a s,s < c.bs.length→Q a s=P a s) : GoodP c Q :=
  ⟨fun a ha=>by rw [ct_congr (q:=P a) fun i hi=>e a i hi]; exact h.rows a ha,fun s hs d hd=>by rw [ct_congr (q:=fun a=>P a s) fun i _=>e i s hs]; exact h.needs s hs d hd,fun s hs=>by rw [ct_congr (q:=fun a=>P a s) fun i _=>e i s hs]; exact h.tot s hs⟩
theorem GoodP.okPl {c : Cv} {P : Nat→Nat→Bool} (h : GoodP c P) : okPl c (fun a=>flL (P a) c.bs.length):=fun a ha=>⟨by rw [flL_len]; exact h.rows a ha,flL_ok _ (Nat.le_refl _)⟩
structure BestP (c : Cv) (L : Nat→List Int) : Prop where
  ok : okPl c L
  good : GoodP c (inP L)
  fst : ∀ Q,GoodP c Q→∀ a e,a < c.hs.length→e < c.bs.length→(∀ a' e',e' < c.bs.length→(a' < a∨(a'=a∧e' < e))→Q a' e'=inP L a' e')→Q a e=true→inP L a e=true
theorem PS.best {c : Cv} {n : Nat} (hc : c.ok n) (hb : c.bs.length≤12) {S : Nat→Nat→Option Bool} (hp : PS c S c.hs.length 0) : BestP c (fun a=>flL (stT S a) c.bs.length):=by
  have hg:=hp.good hc hb
  have e : ∀ a s,s < c.bs.length→inP (fun a=>flL (stT S a) c.bs.length) a s=stT S a s:=fun a s hs=>inP_fl hs
  refine ⟨hg.okPl,hg.congr e,fun Q hQ a s ha hs h1 h2=>?_⟩
  rw [e a s hs]
  exact hp.fst Q hQ a s (.inl ha) hs (fun a' e' y1 y2=>by rw [h1 a' e' y1 y2,e a' e' y1]) h2
open Go.Hall
theorem mS_none : mS (fun _ _=>none)=fun _=>none:=by funext k; simp [mS]
theorem id0 {c : Cv} {n : Nat} (hc : c.ok n) (a : Nat) : 0≤idF c (fun _ _=>none) a:=by
  have h0 : ∀ (p : Nat),ct (fun _=>false) p=0:=fun p=>(sm_congr fun i _=>by simp).trans (sm_zero p)
  simp only [idF]
  have e : ct (stT (fun _ _=>none) a) c.bs.length=0:=h0 _
  split
  · rename_i x
    have:=hc.hok a x
    rw [← Cv.h_eq x] at this
    have h2:=this.2.2.1
    simp only [handsF]
    split <;> omega
  · omega
theorem Rows.chg {H H' : Heap} {box : AObj} {n : Nat} {L : Nat→List Int} {vs : Nat→AV} {G : Heap} (h : Rows H box n L vs G) (hl : H'.length=H.length) : Rows H' box n L vs G:=by
  refine ⟨fun k hk=>(h.at_ k hk).keep fun i hi=>?_,fun k hk i hi=>by rw [hl]; exact h.lo k hk i hi,h.ne⟩
  have:=h.lo k hk i hi
  rw [List.getElem?_append_right (by omega),List.getElem?_append_right (by omega),hl]
structure PB (H : Heap) (c : Cv) (p : Plc) (nid sid : Nat) (bx : List AV) (B : AObj→Heap) : Prop where
  pre : ∀ o,∃ X,B o=H++X
  len : ∀ o,(B o).length=sid+1
  at_ : ∀ o,(B o)[sid]?=some o
  set : ∀ o o',(B o).set sid o'=B o'
  box : ∀ o,rd (B o) H.length 0 10=some bx
  cv : ∀ o,CvAt (B o) c p
  go : ∀ o,GoAt (B o) (.slice nid 0 c.bs.length 1 false) c.hs.length (ndR c) c.bs.length
  sge : H.length < sid
set_option maxHeartbeats 4000000 in
theorem c_PlanV (H : Heap) (l : List Str) (c : Cv) (p : Plc) (hp : CvAt H c p) (ht : TrAt H l p) (hc : c.ok l.length) (hv : validL l) :
    ACalls Try.prog F.qae [.agg (c.av p)] H (fun v h'=>(∃ (pl : AV) (G : Heap) (L : Nat→List Int),v=.tuple [pl,.int .i64 0]∧h'=H++G∧PlAt h' pl c.hs.length L∧BestP c L)∨(StuckR c (fun _ _=>none)∧v=.tuple [.nilslice,.int .i64 8]∧h'=H)):=by
  have hp1:=hp.t
  have hp2:=rd_lt hp.b
  have hp3:=rd_lt hp.h
  have h12:=hv.1
  have hlen:=hc.len
  have h8:=hc.hours
  have k0:=fun G=>c_iCheck (H++G) l c p (hp.app G) (ht.app G) (by omega) (by omega) (by omega)
  have kn:=fun G=>c_needs (H++G) l c p (hp.app G) hc hv
  have hgo:=fun G=>goAt_of (H++G) c.hs.length (ndR c) c.bs.length []
  simp only [Cv.av] at k0 kn ⊢
  refine acalls_of ok_qae rfl fun hcl=>?_
  unfold ac_qae zo
  simp only [argsT,Nat.zero_add,Nat.reduceAdd]
  repeat (first|(with_reducible first|apply X1|apply X2|apply X8)|((with_reducible apply e_end);(simp;exact Rz))|((with_reducible apply O1);rfl;(simp (disch:=omega);exact Rz);exact Rz;(focus (first|(simp;done)|omega|(simp;omega)))))
  (with_reducible apply e_call); (simp; exact Rz); exact k0 _
  rintro _ _ ⟨rfl,e,rfl,he⟩
  obtain rfl : e=0:=by
    rcases he with h | h | h
    · exact h.2.2
    · exact absurd hv h.1
    · exact absurd hc h.2.1
  repeat (first|(with_reducible first|apply X1|apply X2|apply X5|apply X8|apply Y9)|((with_reducible apply e_end);(simp;exact Rz))|((first|((with_reducible apply O1);rfl)|((with_reducible apply P1);rfl)|((with_reducible apply P2);rfl));(simp (disch:=omega);exact Rz);exact Rz;(focus (first|(simp;done)|omega|(simp;omega))))|((with_reducible apply W3);(simp (disch:=omega);exact Rz)))
  (with_reducible apply d_call_); (simp; exact Rz); exact kn _; (focus (first | (simp; done) | (simp; omega)))
  repeat (first|(with_reducible first|apply X1|apply X2|apply X8)|((with_reducible apply d_end);(simp;exact Rz))|((first|((with_reducible apply O1);rfl)|((with_reducible apply P1);rfl)|((with_reducible apply P3);rfl)|((with_reducible apply P4);rfl));(simp (disch:=omega);exact Rz);exact Rz;(focus (first|(simp;done)|omega|(simp;omega)))))
  have hgo:=hgo [.cells [.slice p.tid p.toff p.tn 9 p.tex,.slice p.bid p.boff c.bs.length 3 p.bex,.slice p.hid p.hoff c.hs.length 5 p.hex,.int .i64 c.w1,.int .i64 c.w2,.int .i64 c.y1,.int .i64 c.y2,.int .i64 c.rate,.int .i64 c.lim,.int .i64 c.base] true]
  obtain ⟨B,hB⟩ : ∃ B : AObj→Heap,∀ o,B o=H++(.cells [.slice p.tid p.toff p.tn 9 p.tex,.slice p.bid p.boff c.bs.length 3 p.bex,.slice p.hid p.hoff c.hs.length 5 p.hex,.int .i64 c.w1,.int .i64 c.w2,.int .i64 c.y1,.int .i64 c.y2,.int .i64 c.rate,.int .i64 c.lim,.int .i64 c.base] true :: (goO (H.length+1) c.hs.length (ndR c) c.bs.length []++[o])):=⟨_,fun _=>rfl⟩
  obtain ⟨nid,hnid⟩ : ∃ n,n=H.length+1:=⟨_,rfl⟩
  obtain ⟨sid,hsid⟩ : ∃ n,n=H.length+((goO (H.length+1) c.hs.length (ndR c) c.bs.length []).length+1):=⟨_,rfl⟩
  have hPB : PB H c p nid sid [AV.slice p.tid p.toff p.tn 9 p.tex,.slice p.bid p.boff c.bs.length 3 p.bex,.slice p.hid p.hoff c.hs.length 5 p.hex,.int .i64 c.w1,.int .i64 c.w2,.int .i64 c.y1,.int .i64 c.y2,.int .i64 c.rate,.int .i64 c.lim,.int .i64 c.base] B:=by
    have hBl : ∀ o,(B o).length=sid+1:=fun o=>by rw [hB,hsid]; simp; omega
    have hat : ∀ o,B o=(H++(.cells [.slice p.tid p.toff p.tn 9 p.tex,.slice p.bid p.boff c.bs.length 3 p.bex,.slice p.hid p.hoff c.hs.length 5 p.hex,.int .i64 c.w1,.int .i64 c.w2,.int .i64 c.y1,.int .i64 c.y2,.int .i64 c.rate,.int .i64 c.lim,.int .i64 c.base] true :: goO (H.length+1) c.hs.length (ndR c) c.bs.length []))++[o]:=fun o=>by rw [hB]; simp
    have hll : (H++(.cells [.slice p.tid p.toff p.tn 9 p.tex,.slice p.bid p.boff c.bs.length 3 p.bex,.slice p.hid p.hoff c.hs.length 5 p.hex,.int .i64 c.w1,.int .i64 c.w2,.int .i64 c.y1,.int .i64 c.y2,.int .i64 c.rate,.int .i64 c.lim,.int .i64 c.base] true :: goO (H.length+1) c.hs.length (ndR c) c.bs.length [])).length=sid:=by rw [hsid]; simp
    refine ⟨fun o=>⟨_,hB o⟩,hBl,fun o=>?_,fun o o'=>?_,fun o=>?_,fun o=>?_,fun o=>?_,by omega⟩
    · rw [hat,← hll]; simp
    · rw [hat,hat,← hll]; simp
    · rw [hB]; simp
    · rw [hB]; exact hp.app _
    · have:=hgo.app [o]
      rw [hB,hnid]; simpa using this
  have e0 : ∀ Y,H++.cells [.slice p.tid p.toff p.tn 9 p.tex,.slice p.bid p.boff c.bs.length 3 p.bex,.slice p.hid p.hoff c.hs.length 5 p.hex,.int .i64 c.w1,.int .i64 c.w2,.int .i64 c.y1,.int .i64 c.y2,.int .i64 c.rate,.int .i64 c.lim,.int .i64 c.base] true :: (goO (H.length+1) c.hs.length (ndR c) c.bs.length []++.other (OObj.map [] [] 0) :: Y)=B (.other (OObj.map [] [] 0))++Y:=fun Y=>by rw [hB]; simp
  have hm0 : PMap (.other (OObj.map [] [] 0)) (mS fun _ _=>none):=by rw [mS_none]; exact PMap.nil
  rw [e0,← hsid,← hnid]
  have hsl : H.length < sid:=hPB.sge
  have hnl : nid < sid:=by rw [hnid,hsid]; simp [goO]
  generalize AObj.other (OObj.map [] [] 0)=o0 at hm0 ⊢
  have kf:=fun G=>c_finishes (B o0++G) c p ((hPB.cv o0).app G) _ hc (by omega) nid ((hPB.go o0).app G) sid (fun _ _=>none) ⟨o0,at_old G (hPB.at_ o0),hm0⟩ fun a _=>id0 hc a
  have ks:=fun o S G (hm : PMap o (mS S))=>c_settle (B o++G) c p ((hPB.cv o).app G) _ hc (by omega) nid ((hPB.go o).app G) sid S ⟨o,at_old G (hPB.at_ o),hm⟩
  simp only [rosV,Cv.av,List.cons_append,List.nil_append] at kf ks
  have hBl:=fun o=>hPB.len o
  have hbx:=fun (o : AObj) (Y : Heap)=>(rd_old Y (show H.length < (B o).length by rw [hBl]; omega) 0 10).trans (hPB.box o)
  have hb1:=fun o Y=>rd_sub' (hbx o Y) 1 1 (by omega)
  have hb2:=fun o Y=>rd_sub' (hbx o Y) 2 1 (by omega)
  simp only [List.drop_succ_cons,List.drop_zero,List.take_succ_cons,List.take_zero,Nat.zero_add] at hb1 hb2
  have e1 : H.length+((goO nid c.hs.length (ndR c) c.bs.length []).length+1+1)=sid+1:=by rw [hsid,hnid]; omega
  rw [e1]
  (with_reducible apply e_call); (simp; exact Rz); exact kf _
  rintro _ _ ⟨r,rfl,hr,hst,rfl⟩
  obtain ⟨X0,hX0⟩:=hPB.pre o0
  cases r with
  | false =>
    repeat (first|(with_reducible first|apply X1|apply X2|apply X3|apply X8|apply X9)|((with_reducible apply e_end);(simp;exact Rz))|((with_reducible apply O1);rfl;(simp (disch:=omega);exact Rz);exact Rz;(focus (first|(simp;done)|omega|(simp;omega))))|((with_reducible apply Z9);(simp (disch:=omega);exact Rz)))
    rw [hX0,List.append_assoc]
    exact q_drop (.inr rfl) (by simp; exact Rz) (by simp [AV.sc,scL]) (.inr ⟨hst rfl,rfl,rfl⟩)
  | true =>
    have hP0:=PS.start hc (hr.1 rfl)
    have hbr : ∀ o Y,rd (B o++(.cells [AV.slice p.tid p.toff p.tn 9 p.tex,.slice p.bid p.boff c.bs.length 3 p.bex,.slice p.hid p.hoff c.hs.length 5 p.hex,.int .i64 c.w1,.int .i64 c.w2,.int .i64 c.y1,.int .i64 c.y2,.int .i64 c.rate,.int .i64 c.lim,.int .i64 c.base,.slice nid 0 c.bs.length 1 false,.map sid] true) :: Y) (sid+1) 0 12=some [AV.slice p.tid p.toff p.tn 9 p.tex,.slice p.bid p.boff c.bs.length 3 p.bex,.slice p.hid p.hoff c.hs.length 5 p.hex,.int .i64 c.w1,.int .i64 c.w2,.int .i64 c.y1,.int .i64 c.y2,.int .i64 c.rate,.int .i64 c.lim,.int .i64 c.base,.slice nid 0 c.bs.length 1 false,.map sid]:=fun o Y=>by rw [← hBl o]; simp
    obtain ⟨rx,hrx⟩ : ∃ rx,rx=(.cells [AV.slice p.tid p.toff p.tn 9 p.tex,.slice p.bid p.boff c.bs.length 3 p.bex,.slice p.hid p.hoff c.hs.length 5 p.hex,.int .i64 c.w1,.int .i64 c.w2,.int .i64 c.y1,.int .i64 c.y2,.int .i64 c.rate,.int .i64 c.lim,.int .i64 c.base,.slice nid 0 c.bs.length 1 false,.map sid] true : AObj):=⟨_,rfl⟩
    rw [← hrx] at hbr ⊢
    repeat (first|(with_reducible first|apply X1|apply X2|apply X5|apply X6|apply X8)|((with_reducible apply e_end);(simp;exact Rz))|((with_reducible apply O1);rfl;(simp (disch:=omega) [hb2];exact Rz);exact Rz;(focus (first|(simp;done)|omega|(simp;omega))))|((with_reducible apply W3);(simp (disch:=omega) [hb2];exact Rz)))
    rw [rwV_nil]
    refine e_loop (ι:={ x : Nat × AObj × (Nat→Nat→Option Bool) × (Nat→AV) × Heap // x.1≤c.hs.length∧PMap x.2.1 (mS x.2.2.1)∧PS c x.2.2.1 x.1 0∧Rows (B x.2.1) rx c.hs.length (fun k=>if k < x.1 then flL (stT x.2.2.1 k) c.bs.length else []) x.2.2.2.1 x.2.2.2.2 })
      (fun x=>[(1,.ptr H.length 0),(5,.ptr (sid+1) 0),(6,.slice (sid+2) 0 c.hs.length 1 true),(30,.int .i64 c.hs.length),(31,.int .i64 x.1.1)])
      (fun x=>B x.1.2.1++rx :: AObj.cells (rwV x.1.2.2.2.1 c.hs.length) true :: x.1.2.2.2.2) (fun x=>c.hs.length - x.1.1) ⟨(0,o0,fun _ _=>none,fun _=>.nilslice,[]),by simp,hm0,hP0,Rows.nil _ _ _ _ (fun k _=>by simp)⟩ ?_ ?_
    · refine .inl ?_
      dsimp only
      rw [hBl]
      rfl
    · rintro ⟨⟨h,o,S,vs,G⟩,hi,hm,hP,hR⟩
      dsimp only at hi hm hP hR ⊢
      by_cases hlt : h < c.hs.length
      · have hlt2 : (h : Int) < c.hs.length:=by omega
        repeat (first|(with_reducible first|apply X1|apply X2|apply X5|apply X6|apply X8)|((with_reducible apply e_end);(simp;exact Rz))|((with_reducible apply O1);rfl;(simp (disch:=omega) [hlt2,hb1];exact Rz);exact Rz;(focus (first|(simp;done)|omega|(simp;omega))))|((with_reducible apply Z9);(simp (disch:=omega) [hlt2,hb1];exact Rz)))
        refine e_loop (ι:={ x : Nat × AObj × (Nat→Nat→Option Bool) × (Nat→AV) × Heap // x.1≤c.bs.length∧PMap x.2.1 (mS x.2.2.1)∧PS c x.2.2.1 h x.1∧Rows (B x.2.1) rx c.hs.length (fun k=>if k < h then flL (stT x.2.2.1 k) c.bs.length else if k=h then flL (stT x.2.2.1 h) x.1 else []) x.2.2.2.1 x.2.2.2.2 })
          (fun x=>[(1,.ptr H.length 0),(5,.ptr (sid+1) 0),(6,.slice (sid+2) 0 c.hs.length 1 true),(7,.int .i64 h),(30,.int .i64 c.hs.length),(31,.int .i64 h),(36,.int .i64 c.bs.length),(37,.int .i64 x.1.1)])
          (fun x=>B x.1.2.1++rx :: AObj.cells (rwV x.1.2.2.2.1 c.hs.length) true :: x.1.2.2.2.2) (fun x=>c.bs.length - x.1.1) ⟨(0,o,S,vs,G),by simp,hm,hP,hR.congr fun k _=>by simp [flL]⟩ ?_ ?_
        · exact .inl rfl
        · clear hm hP hR o S vs G
          rintro ⟨⟨i,o,S,vs,G⟩,hi,hm,hP,hR⟩
          dsimp only at hi hm hP hR ⊢
          by_cases hil : i < c.bs.length
          · have hil2 : (i : Int) < c.bs.length:=by omega
            repeat (first|(with_reducible first|apply X1|apply X2|apply X5|apply X6|apply X8)|((with_reducible apply e_end);(simp;exact Rz))|((with_reducible apply O1);rfl;(simp (disch:=omega) [hil2,hbr];exact Rz);exact Rz;(focus (first|(simp;done)|omega|(simp;omega))))|((with_reducible apply Z9);(simp (disch:=omega) [hil2,hbr];exact Rz)))
            (with_reducible apply e_call); (simp; exact Rz); exact ks o S _ hm hP.hnd h i hlt hil (hP.none (by omega))
            rintro _ _ ⟨r,o',rfl,rfl,hm',hr⟩
            have hP':=hP.settle hc (by omega) hlt hil hr
            have hR':=hR.chg (H':=B o') (by rw [hBl,hBl])
            rw [set_old (by rw [hBl]; omega),hPB.set]
            have hst : ∀ k s,k ≠ h∨s ≠ i→stT (setS S h i r) k s=stT S k s:=fun k s hx=>by rw [stT_put]; dsimp only; rw [if_neg (by omega)]
            have hrowk : ∀ k,k ≠ h→flL (stT (setS S h i r) k) c.bs.length=flL (stT S k) c.bs.length:=fun k hk=>flL_congr fun s _=>hst k s (.inl hk)
            have hrowh : flL (stT (setS S h i r) h) i=flL (stT S h) i:=flL_congr fun s hs=>hst h s (.inr (by omega))
            have hsi : stT (setS S h i r) h i=r:=by rw [stT_put]; simp
            cases r with
            | false =>
              repeat (first|(with_reducible first|apply X2|apply X5|apply X8|apply Y2)|((with_reducible apply e_end);(simp;exact Rz))|((with_reducible apply O1);rfl;(simp (disch:=omega);exact Rz);exact Rz;(focus (first|(simp;done)|omega|(simp;omega))))|((with_reducible apply W3);(simp (disch:=omega);exact Rz)))
              refine q_again ⟨(i+1,o',setS S h i false,vs,G),hil,hm',hP',hR'.congr fun k hk=>?_⟩ (by dsimp only; omega) (.inl (by simp))
              by_cases h1 : k < h
              · simp only [h1,if_true]; exact hrowk k (by omega)
              · by_cases h2 : k=h
                · simp only [h2,Nat.lt_irrefl,if_false,if_true,flL_succ,hsi,hrowh,Bool.false_eq_true]
                · simp only [h1,h2,if_false]
            | true =>
              have hrw:=rwV_at vs hlt
              have hrl:=rwV_length vs c.hs.length
              have hle1 : h+1≤c.hs.length:=by omega
              have hRh:=hR'.at_ h hlt
              simp only [Nat.lt_irrefl,if_false,if_true] at hRh
              have hlm:=flL_le (stT S h) i
              have hBl':=hBl o'
              have e3 : sid+2=(B o').length+1:=by rw [hBl]
              rw [e3]
              repeat (first|(with_reducible first|apply X2|apply X8)|((with_reducible apply e_end);(simp;exact Rz))|((with_reducible apply O1);rfl;(simp (disch:=omega) [hlt,hlt2,hrw,hrl,hle1];exact Rz);exact Rz;(focus (first|(simp;done)|omega|(simp;omega))))|((with_reducible apply Z9);(simp (disch:=omega) [hlt,hlt2,hrw,hrl,hle1];exact Rz)))
              refine e_appA (A:=B o'++[rx,.cells (rwV vs c.hs.length) true]) (G:=G++[.cells [.int .i64 (i : Int)] true])
                (cs:=iv (flL (stT S h) i)) (n:=(flL (stT S h) i).length) (m:=1) (new:=[.int .i64 (i : Int)]) (by simp) (by simp; exact Rz) (by simp; exact Rz) (by have:=hRh.app [.cells [.int .i64 (i : Int)] true]; simpa using this) (fun k hk=>by have:=hR'.lo h hlt k hk; simp; omega) (by simp) (by simp) (by omega) (by omega) ?_
              intro G2 v2 e3 e4 e5 e6 e7
              simp only [List.append_assoc,List.cons_append,List.nil_append] at e3 e4 e5 e6 e7 ⊢
              have e3':=e3
              obtain ⟨_,⟨_,h0⟩ | ⟨id2,_,rfl,hh2⟩⟩:=e3'
              · omega
              have hput:=rwV_put vs hlt (.slice id2 0 ((flL (stT S h) i).length+1) 1 false)
              have hid2 : (B o').length+2≤id2:=by have:=e4 id2 rfl; simpa using this
              have hid3:=e6 id2 rfl
              simp only [List.length_append,List.length_cons,List.length_nil] at hid3
              repeat (first|(with_reducible first|apply X2|apply X8|apply Y2)|((with_reducible apply e_end);(simp;exact Rz))|((first|((with_reducible apply O1);rfl)|((with_reducible apply O2);rfl));(simp (disch:=omega) [hlt,hlt2,hrl,hle1,-splice,hput];exact Rz);exact Rz;(focus (first|(simp;done)|omega|(simp;omega)))))
              refine q_again ⟨(i+1,o',setS S h i true,updV vs h (.slice id2 0 ((flL (stT S h) i).length+1) 1 false),G2),hil,hm',hP',?_⟩ (by dsimp only; omega) (.inl (by simp [hBl]))
              have old : ∀ k,k < c.hs.length→∀ i,isId (vs k) i→i < (B o').length+(G.length+2):=fun k hk i hi=>by
                have:=(hR'.at_ k hk).l.lt hi
                simp at this; omega
              refine ⟨fun k hk=>?_,fun k hk i hi=>?_,fun k j hk hj hne i hi hi2=>?_⟩
              · by_cases hkh : k=h
                · subst hkh
                  simp only [updV,if_true,Nat.lt_irrefl,if_false,flL_succ,hsi,hrowh,iv_app,List.length_append]
                  refine e3.keep fun i hi=>get3 ?_
                  have : id2=i:=hi
                  omega
                · simp only [updV,if_neg hkh]
                  have:=hR'.at_ k hk
                  simp only [if_neg hkh] at this
                  rw [hrowk k hkh]
                  refine this.keep fun q hq=>?_
                  have l1:=hR'.lo k hk q hq
                  have l2:=old k hk q hq
                  have l3:=hR'.ne k h hk hlt hkh q hq
                  rw [get3 (b':=AObj.cells (rwV vs c.hs.length) true) l1,e5 q (by simp; omega) l3,get4 l2]
              · by_cases hkh : k=h
                · simp only [updV,if_pos hkh] at hi
                  have : id2=i:=hi
                  show (B o').length+2≤i
                  omega
                · simp only [updV,if_neg hkh] at hi
                  exact hR'.lo k hk i hi
              · by_cases hkh : k=h
                · by_cases hjh : j=h
                  · omega
                  · simp only [updV,if_pos hkh,if_neg hjh] at hi hi2
                    have : id2=i:=hi
                    have:=old j hj i hi2
                    omega
                · by_cases hjh : j=h
                  · simp only [updV,if_neg hkh,if_pos hjh] at hi hi2
                    have : id2=i:=hi2
                    have:=old k hk i hi
                    omega
                  · simp only [updV,if_neg hkh,if_neg hjh] at hi hi2
                    exact hR'.ne k j hk hj hne i hi hi2
          · have hil2 : ¬ (i : Int) < c.bs.length:=by omega
            obtain rfl : i=c.bs.length:=by omega
            repeat (first|(with_reducible first|apply X1|apply X2|apply X4|apply X8|apply Y1|apply Y2|apply Y4|apply Y6)|((with_reducible apply e_end);(simp;exact Rz))|((with_reducible apply O1);rfl;(simp (disch:=omega) [hil2];exact Rz);exact Rz;(focus (first|(simp;done)|omega|(simp;omega))))|((with_reducible apply W3);(simp (disch:=omega) [hil2];exact Rz)))
            refine q_again ⟨(h+1,o,S,vs,G),hlt,hm,hP.row,hR.congr fun k hk=>?_⟩ (by dsimp only; omega) (.inl (by simp))
            by_cases h1 : k < h
            · simp [h1,show k < h+1 by omega]
            · by_cases h2 : k=h
              · simp [h2]
              · simp [h1,h2,show ¬ k < h+1 by omega]
      · have hlt2 : ¬ (h : Int) < c.hs.length:=by omega
        obtain rfl : h=c.hs.length:=by omega
        repeat (first|(with_reducible first|apply X1|apply X2|apply X3|apply X4|apply X8|apply Y1|apply Y4|apply Y6)|((with_reducible apply e_end);(simp;exact Rz))|((with_reducible apply O1);rfl;(simp (disch:=omega) [hlt2];exact Rz);exact Rz;(focus (first|(simp;done)|omega|(simp;omega))))|((with_reducible apply W3);(simp (disch:=omega) [hlt2];exact Rz)))
        obtain ⟨X1,hX1⟩:=hPB.pre o
        have hpl : PlAt (B o++rx :: AObj.cells (rwV vs c.hs.length) true :: G) (.slice (sid+2) 0 c.hs.length 1 true) c.hs.length (fun k=>flL (stT S k) c.bs.length):=by
          refine ⟨sid+2,0,true,vs,rfl,?_,fun k hk=>?_⟩
          · have:=rwV_length vs c.hs.length
            have e3 : sid+2=(B o).length+1:=by rw [hBl]
            rw [e3]
            simp only [rd_new,rd_succ,rd_zero,this,Nat.mul_one,Nat.zero_add,Nat.le_refl,if_true,List.drop_zero]
            rw [List.take_of_length_le (by omega)]; rfl
          · have:=(hR.at_ k hk).l.r
            simp only [hk,if_true] at this
            exact this
        exact q_stay (.inr rfl) (by simp; exact Rz) (.inl ⟨_,X1++rx :: AObj.cells (rwV vs c.hs.length) true :: G,_,rfl,by rw [hX1,List.append_assoc],hpl,hP.best hc (by omega)⟩)
open Go.Hall
def moH (us : List Int) (i : Nat) (h : Hr) : Hr:=⟨h.m1,h.m2,h.runs - chooseF us (3 * i+2) % (h.runs+1),min 12 (h.crew+chooseF us (3 * i) % 2),h.cold || decide (chooseF us (3 * i+1) % 3=0)⟩
def moB (us : List Int) (i : Nat) (b : Bd) : Bd:=⟨min 2000 (b.lo+chooseF us (31+2 * i) % 40),min 2000 (b.hi+chooseF us (31+2 * i) % 40),b.sun - chooseF us (30+2 * i) % (b.sun+1)⟩
def Cv.mo (c : Cv) (us : List Int) : Cv:={ c with bs:=(List.range c.bs.length).map fun i=>moB us i (c.b i),hs:=(List.range c.hs.length).map fun i=>moH us i (c.h i) }
theorem mo_h {c : Cv} {us : List Int} {j : Nat} (hj : j < c.hs.length) : (c.mo us).h j=moH us j (c.h j):=by
  have h : j < (c.mo us).hs.length:=by simpa [Cv.mo] using hj
  rw [Cv.h_eq h]; simp [Cv.mo]
theorem mo_b {c : Cv} {us : List Int} {j : Nat} (hj : j < c.bs.length) : (c.mo us).b j=moB us j (c.b j):=by
  have h : j < (c.mo us).bs.length:=by simpa [Cv.mo] using hj
  rw [Cv.b_eq h]; simp [Cv.mo]
theorem mo_bl (c : Cv) (us : List Int) : (c.mo us).bs.length=c.bs.length:=by simp [Cv.mo]
theorem mo_hl (c : Cv) (us : List Int) : (c.mo us).hs.length=c.hs.length:=by simp [Cv.mo]
theorem mo_w1 (c : Cv) (us : List Int) : (c.mo us).w1=c.w1:=rfl
theorem mo_w2 (c : Cv) (us : List Int) : (c.mo us).w2=c.w2:=rfl
theorem mo_y1 (c : Cv) (us : List Int) : (c.mo us).y1=c.y1:=rfl
theorem mo_y2 (c : Cv) (us : List Int) : (c.mo us).y2=c.y2:=rfl
theorem mo_rate (c : Cv) (us : List Int) : (c.mo us).rate=c.rate:=rfl
theorem mo_lim (c : Cv) (us : List Int) : (c.mo us).lim=c.lim:=rfl
theorem mo_base (c : Cv) (us : List Int) : (c.mo us).base=c.base:=rfl
section
variable {c : Cv} {n : Nat} {us : List Int}
theorem moH_le (hu : ∀ i,0≤chooseF us i∧chooseF us i≤4294967295) {i : Nat} {h : Hr} (ho : h.ok) : (moH us i h).ok∧(moH us i h).runs≤h.runs∧h.crew≤(moH us i h).crew∧(h.cold=true→(moH us i h).cold=true):=by
  obtain ⟨h1,h2,h3⟩:=ho
  have a1:=Int.emod_nonneg (chooseF us (3 * i+2)) (show h.runs+1 ≠ 0 by omega)
  have a2:=Int.emod_lt_of_pos (chooseF us (3 * i+2)) (show 0 < h.runs+1 by omega)
  have a3:=Int.emod_nonneg (chooseF us (3 * i)) (show (2 : Int) ≠ 0 by omega)
  refine ⟨⟨h1,?_,?_⟩,?_,?_,fun hh=>?_⟩
  · simp only [moH]; omega
  · simp only [moH]; omega
  · simp only [moH]; omega
  · simp only [moH]; omega
  · simp [moH,hh]
theorem moB_le (hu : ∀ i,0≤chooseF us i∧chooseF us i≤4294967295) {i : Nat} {b : Bd} (ho : b.ok) : (moB us i b).ok∧(moB us i b).sun≤b.sun∧b.lo≤(moB us i b).lo∧b.hi≤(moB us i b).hi:=by
  obtain ⟨h1,h2⟩:=ho
  have a1:=Int.emod_nonneg (chooseF us (30+2 * i)) (show b.sun+1 ≠ 0 by omega)
  have a2:=Int.emod_lt_of_pos (chooseF us (30+2 * i)) (show 0 < b.sun+1 by omega)
  have a3:=Int.emod_nonneg (chooseF us (31+2 * i)) (show (40 : Int) ≠ 0 by omega)
  refine ⟨⟨?_,?_⟩,?_,?_,?_⟩ <;> simp only [moB] <;> omega
theorem mo_ok (hc : c.ok n) (hu : ∀ i,0≤chooseF us i∧chooseF us i≤4294967295) : (c.mo us).ok n :=
  ⟨by rw [mo_bl]; exact hc.len,by rw [mo_hl]; exact hc.hours,fun i hi=>by
    have hi2:=hi
    rw [mo_bl] at hi2
    rw [← Cv.b_eq hi,mo_b hi2,Cv.b_eq hi2]
    exact (moB_le hu (hc.bok i hi2)).1,fun i hi=>by
    have hi2:=hi
    rw [mo_hl] at hi2
    rw [← Cv.h_eq hi,mo_h hi2,Cv.h_eq hi2]
    exact (moH_le hu (hc.hok i hi2)).1,hc.rul⟩
theorem mo_hands (hc : c.ok n) (hu : ∀ i,0≤chooseF us i∧chooseF us i≤4294967295) {h : Nat} (hh : h < c.hs.length) : handsF c h≤handsF (c.mo us) h:=by
  have ho:=hc.hok h hh
  rw [← Cv.h_eq hh] at ho
  obtain ⟨a1,a2,a3,a4⟩:=moH_le (i:=h) hu ho
  have:=ho.2.2
  simp only [handsF,mo_h hh]
  cases hcold : (c.h h).cold with
  | true=>rw [a4 hcold]; simpa using a3
  | false=>simp only [Bool.false_eq_true,if_false]; split <;> omega
theorem mo_loss (hc : c.ok n) (hu : ∀ i,0≤chooseF us i∧chooseF us i≤4294967295) (w : Bool) {s h : Nat} (hs : s < c.bs.length) (hh : h < c.hs.length) : lossF (c.mo us) (endT w (c.mo us)) s h≤lossF c (endT w c) s h:=by
  have ho:=hc.hok h hh
  rw [← Cv.h_eq hh] at ho
  have bo:=hc.bok s hs
  rw [← Cv.b_eq hs] at bo
  obtain ⟨a1,a2,a3,a4⟩:=moH_le (i:=h) hu ho
  obtain ⟨b1,b2,b3,b4⟩:=moB_le (i:=s) hu bo
  have em : (endT w (c.mo us)).melt h=(endT w c).melt h:=by cases w <;> simp only [endT,if_true,Bool.false_eq_true,if_false,mo_h hh] <;> rfl
  have ew : (endT w (c.mo us)).wear=(endT w c).wear:=by cases w <;> rfl
  have ht:=(endT_ok hc w).melt h hh
  have hw:=(endT_ok hc w).wear
  have hr:=hc.rul
  simp only [Cv.ruled] at hr
  have m1:=Int.mul_le_mul_of_nonneg_right b2 (show 0≤(endT w c).melt h by have:=ho.1; omega)
  have m2:=Int.mul_le_mul_of_nonneg_right a2 (show 0≤(endT w c).wear by omega)
  simp only [lossF,mo_b hs,mo_h hh,em,ew]
  omega
theorem mo_asks (hc : c.ok n) (hu : ∀ i,0≤chooseF us i∧chooseF us i≤4294967295) {h : Nat} (hh : h < c.hs.length) : asks (c.mo us) h≤asks c h:=by
  have ho:=hc.hok h hh
  rw [← Cv.h_eq hh] at ho
  obtain ⟨a1,a2,a3,a4⟩:=moH_le (i:=h) hu ho
  have hr:=hc.rul
  simp only [Cv.ruled] at hr
  simp only [asks,mo_h hh,mo_lim,mo_base]
  split <;> split <;> omega
theorem mo_thick (hc : c.ok n) (hu : ∀ i,0≤chooseF us i∧chooseF us i≤4294967295) (w : Bool) {s : Nat} (hs : s < c.bs.length) : (endT w c).thick s≤(endT w (c.mo us)).thick s:=by
  have bo:=hc.bok s hs
  rw [← Cv.b_eq hs] at bo
  obtain ⟨b1,b2,b3,b4⟩:=moB_le (i:=s) hu bo
  cases w
  · simp only [endT,Bool.false_eq_true,if_false,mo_b hs]; exact b4
  · simp only [endT,if_true,mo_b hs]; exact b3
theorem mo_bef (hc : c.ok n) (hu : ∀ i,0≤chooseF us i∧chooseF us i≤4294967295) (w : Bool) (P : Nat→Nat→Bool) {s : Nat} (hs : s < c.bs.length) : ∀ {h : Nat},h≤c.hs.length→befF c (endT w c) P s h≤befF (c.mo us) (endT w (c.mo us)) P s h
  | 0,_=>mo_thick hc hu w hs
  | h+1,hh=>by
    have ih:=mo_bef hc hu w P hs (h:=h) (by omega)
    have hl:=mo_loss hc hu w hs (show h < c.hs.length by omega)
    have ey : (endT w (c.mo us)).layer=(endT w c).layer:=by cases w <;> rfl
    simp only [befF,ey]
    omega
theorem mo_too (hc : c.ok n) (hu : ∀ i,0≤chooseF us i∧chooseF us i≤4294967295) (w : Bool) {P : Nat→Nat→Bool} {s h : Nat} (hs : s < c.bs.length) (hh : h < c.hs.length) (h0 : tooF c (endT w c) P h s=false) : tooF (c.mo us) (endT w (c.mo us)) P h s=false:=by
  have a1:=mo_bef hc hu w P hs (h:=h) (by omega)
  have a2:=mo_loss hc hu w hs hh
  have a3:=mo_asks hc hu hh
  simp only [tooF,decide_eq_false_iff_not] at h0 ⊢
  omega
theorem mo_nil (hc : c.ok n) (hu : ∀ i,0≤chooseF us i∧chooseF us i≤4294967295) (w : Bool) {P : Nat→Nat→Bool} (h0 : thP c (endT w c) P c.hs.length=[]) : thP (c.mo us) (endT w (c.mo us)) P c.hs.length=[]:=by
  rw [thP_nil] at h0 ⊢
  intro h s hh hs
  rw [mo_bl] at hs
  exact mo_too hc hu w hs hh (h0 h s hh hs)
theorem mo_safe (hc : c.ok n) (hu : ∀ i,0≤chooseF us i∧chooseF us i≤4294967295) (L : Nat→List Int) : safeF c L≤safeF (c.mo us) L:=by
  have a1:=mo_nil hc hu true (P:=inP L)
  have a2:=mo_nil hc hu false (P:=inP L)
  simp only [safeF,mo_hl]
  by_cases h1 : thP c (endT false c) (inP L) c.hs.length=[]
  · by_cases h2 : thP c (endT true c) (inP L) c.hs.length=[]
    · simp [h1,h2,a1 h2,a2 h1]
    · simp only [h1,h2,a2 h1,ne_eq,not_true_eq_false,if_false,not_false_eq_true,if_true]
      split <;> omega
  · simp only [h1,ne_eq,not_false_eq_true,if_true]
    split
    · omega
    · split <;> omega
theorem mo_ic (hc : c.ok n) (hu : ∀ i,0≤chooseF us i∧chooseF us i≤4294967295) {s : Nat} (hs : s < c.bs.length) : ∀ {h : Nat},h≤c.hs.length→icF c s h≤icF (c.mo us) s h
  | 0,_=>mo_thick hc hu true hs
  | h+1,hh=>by
    have ih:=mo_ic hc hu hs (h:=h) (by omega)
    have hl:=mo_loss hc hu true hs (show h < c.hs.length by omega)
    simp only [icF]; omega
theorem mo_nd (hc : c.ok n) (hu : ∀ i,0≤chooseF us i∧chooseF us i≤4294967295) {s : Nat} (hs : s < c.bs.length) : ∀ {h : Nat},h≤c.hs.length→ndF (c.mo us) s h≤ndF c s h
  | 0,_=>Int.le_refl _
  | h+1,hh=>by
    have ih:=mo_nd hc hu hs (h:=h) (by omega)
    have hi:=mo_ic hc hu hs (h:=h+1) hh
    have ha:=mo_asks hc hu (show h < c.hs.length by omega)
    have hy : 1≤c.y1:=hc.rul.2.1.2.1
    have h0:=(ndF_bd hc hs (h:=h+1) hh).1
    have e : ndF c s (h+1)=max (ndF c s h) (laF (asks c h - icF c s (h+1)) c.y1):=rfl
    have e2 : ndF (c.mo us) s (h+1)=max (ndF (c.mo us) s h) (laF (asks (c.mo us) h - icF (c.mo us) s (h+1)) c.y1):=rfl
    have k1:=(la_le (x:=asks c h - icF c s (h+1)) hy h0).1 (by omega)
    have k2:=(la_le (x:=asks (c.mo us) h - icF (c.mo us) s (h+1)) hy h0).2 (by omega)
    omega
theorem mo_feas (hc : c.ok n) (hb : c.bs.length≤12) (hu : ∀ i,0≤chooseF us i∧chooseF us i≤4294967295) (hf : feasR c (fun _ _=>none)) : feasR (c.mo us) (fun _ _=>none):=by
  have h8:=hc.hours
  obtain ⟨Q,h1,h2⟩:=(feas0_iff hb h8.2).1 hf
  refine (feas0_iff (by rw [mo_bl]; exact hb) (by rw [mo_hl]; exact h8.2)).2 ⟨Q,fun h hh=>?_,fun s hs d hd=>?_⟩
  · rw [mo_hl] at hh
    rw [mo_bl]
    exact Int.le_trans (h1 h hh) (mo_hands hc hu hh)
  · rw [mo_bl] at hs
    rw [mo_hl] at hd
    exact Int.le_trans (mo_nd hc hu hs (h:=d+1) hd) (h2 s hs d hd)
theorem mo_okPl (hc : c.ok n) (hu : ∀ i,0≤chooseF us i∧chooseF us i≤4294967295) {L : Nat→List Int} (h : okPl c L) : okPl (c.mo us) L:=fun k hk=>by
  rw [mo_hl] at hk
  obtain ⟨a,b⟩:=h k hk
  rw [mo_bl]
  exact ⟨Int.le_trans a (mo_hands hc hu hk),b⟩
end
theorem safeF_in2 (c : Cv) (L : Nat→List Int) : 0≤safeF c L∧safeF c L≤2:=by
  simp only [safeF]
  split
  · omega
  · split <;> omega
open Go.Hall
theorem plain_hf (R : Nat→Hr) : PlainRow 5 (fun j=>(R j).av):=⟨fun _=>rfl,fun _=>⟨rfl,fun _=>rfl,fun _=>rfl⟩⟩
theorem plain_bf (R : Nat→Bd) : PlainRow 3 (fun j=>(R j).av):=⟨fun _=>rfl,fun _=>⟨rfl,fun _=>rfl,fun _=>rfl⟩⟩
theorem putH (R : Nat→Hr) {n i k : Nat} {v : AV} (x : Hr) (hi : i < n) (hk : k+1≤5) (he : x.av=splice (R i).av k [v]) : splice (avR (fun j=>(R j).av) n) (i * 5+k) [v]=avR (fun j=>((fun j=>if j=i then x else R j) j).av) n:=by
  refine (plain_hf R).put (plain_hf _) hi (by simpa using hk) ?_ fun j hj hne=>?_
  · rw [if_pos rfl]; exact he
  · rw [if_neg hne]
theorem putB (R : Nat→Bd) {n i k : Nat} {vs : List AV} (x : Bd) (hi : i < n) (hk : k+vs.length≤3) (he : x.av=splice (R i).av k vs) : splice (avR (fun j=>(R j).av) n) (i * 3+k) vs=avR (fun j=>((fun j=>if j=i then x else R j) j).av) n:=by
  refine (plain_bf R).put (plain_bf _) hi hk ?_ fun j hj hne=>?_
  · rw [if_pos rfl]; exact he
  · rw [if_neg hne]
theorem partH (R : Nat→Hr) {n i k m : Nat} (hi : i < n) (hk : k+m≤5) : ((avR (fun j=>(R j).av) n).drop (i * 5+k)).take m=((R i).av.drop k).take m:=(plain_hf R).part hi hk
theorem partB (R : Nat→Bd) {n i k m : Nat} (hi : i < n) (hk : k+m≤3) : ((avR (fun j=>(R j).av) n).drop (i * 3+k)).take m=((R i).av.drop k).take m:=(plain_bf R).part hi hk
theorem c_l2span (H : Heap) (a b : Int) : ACalls Try.prog F.qcb [.int .i64 a,.int .i64 b] H (fun v h'=>v=.agg [.int .i64 a,.int .i64 b]∧h'=H):=by
  refine acalls_of ok_qcb rfl fun hcl=>?_
  unfold ac_qcb zo
  simp only [argsT,Nat.zero_add,Nat.reduceAdd]
  repeat (first|(with_reducible first|apply X1|apply X2|apply X3|apply X8)|((with_reducible apply e_end);(simp;exact Rz))|((first|((with_reducible apply O1);rfl)|((with_reducible apply O2);rfl));(simp (disch:=omega);exact Rz);exact Rz;(focus (first|(simp;done)|omega|(simp;omega)))))
  refine q_drop (.inr rfl) (by simp; exact Rz) (by simp) ⟨rfl,rfl⟩
set_option maxHeartbeats 4000000 in
theorem c_lawIMo (H : Heap) (l : List Str) (c : Cv) (p : Plc) (us : List Int) (uid uoff : Nat) (uex : Bool) (hp : CvAt H c p) (ht : TrAt H l p) (hn : (l.length : Int)≤9223372036854775807) (hn1 : (c.bs.length : Int)≤9223372036854775807) (hn2 : (c.hs.length : Int)≤9223372036854775807)
    (hb : rd H uid uoff us.length=some (us.map (.int .u32))) (hu : ∀ u ∈ us,0≤u∧u≤4294967295) (hun : (us.length : Int)≤9223372036854775807) :
    ACalls Try.prog F.qbt [.agg (c.av p),.slice uid uoff us.length 1 uex] H (fun v _=>v=.bool true):=by
  have hp1:=hp.t
  have hp2:=rd_lt hp.b
  have hp3:=rd_lt hp.h
  have huid:=rd_lt hb
  have kr:=fun G=>c_ready2 (H++G) l c p (hp.app G) (ht.app G) hn hn1 hn2
  have kp:=fun G hc hv=>c_PlanV (H++G) l c p (hp.app G) (ht.app G) hc hv
  have kd:=fun G hc hv=>c_drawn2 (H++G) l c p (hp.app G) hc hv us 60 uid uoff uex (by rw [rd_old _ huid]; exact hb) hu hun (by omega)
  have kt:=fun G h1 h2 h3=>c_r2Twin (H++G) l c p (hp.app G) (ht.app G) h1 h2 h3
  have cc:=fun G i h0 h1=>c_choose2 (H++G) us uid uoff uex i (by rw [rd_old _ huid]; exact hb) hu h0 h1 hun
  have hpA:=fun G=>hp.app (G:=G)
  have htA:=fun G=>ht.app G
  simp only [Cv.av,twP] at kr kp kd kt ⊢
  refine acalls_of ok_qbt rfl fun hcl=>?_
  unfold ac_qbt zo
  simp only [argsT,Nat.zero_add,Nat.reduceAdd]
  repeat (first|(with_reducible first|apply X1|apply X2|apply X8)|((with_reducible apply e_end);(simp;exact Rz))|((with_reducible apply O1);rfl;(simp (disch:=omega);exact Rz);exact Rz;(focus (first|(simp;done)|omega|(simp;omega)))))
  (with_reducible apply e_call); (simp; exact Rz); exact c_aliveI _
  rintro _ _ ⟨rfl,rfl⟩
  repeat (first|(with_reducible first|apply X1|apply X2|apply X5|apply X8)|((with_reducible apply e_end);(simp;exact Rz))|((with_reducible apply O1);rfl;(simp (disch:=omega);exact Rz);exact Rz;(focus (first|(simp;done)|omega|(simp;omega))))|((with_reducible apply W3);(simp (disch:=omega);exact Rz)))
  (with_reducible apply e_call); (simp; exact Rz); exact kr _
  rintro _ _ ⟨rfl,b,rfl,hrd⟩
  cases b with
  | false =>
    repeat (first|(with_reducible first|apply X1|apply X2|apply X3|apply X8|apply X9)|((with_reducible apply e_end);(simp;exact Rz))|((with_reducible apply O1);rfl;(simp (disch:=omega);exact Rz);exact Rz;(focus (first|(simp;done)|omega|(simp;omega))))|((with_reducible apply Z9);(simp (disch:=omega);exact Rz)))
    exact q_stay (.inr rfl) (by simp; exact Rz) rfl
  | true =>
  obtain ⟨hv,hc⟩:=hrd.1 rfl
  have h12:=hv.1
  have hlen:=hc.len
  have h8:=hc.hours
  have hb12 : c.bs.length≤12:=by omega
  have flb : (c.bs.flatMap Bd.av).length=c.bs.length * 3:=by rw [flat_bd]; exact (plain_bd c).length _
  have flh : (c.hs.flatMap Hr.av).length=c.hs.length * 5:=by rw [flat_hr]; exact (plain_hr c).length _
  repeat (first|(with_reducible first|apply X1|apply X2|apply X5|apply X8)|((with_reducible apply e_end);(simp;exact Rz))|((with_reducible apply O1);rfl;(simp (disch:=omega);exact Rz);exact Rz;(focus (first|(simp;done)|omega|(simp;omega))))|((with_reducible apply W3);(simp (disch:=omega);exact Rz)))
  (with_reducible apply e_call); (simp; exact Rz); exact kt _ (by omega) (by omega) (by omega)
  rintro _ _ ⟨rfl,rfl⟩
  repeat (first|(with_reducible first|apply X1|apply X2|apply X6|apply X8)|((with_reducible apply e_end);(simp;exact Rz))|((first|((with_reducible apply O1);rfl)|((with_reducible apply O2);rfl));(simp (disch:=omega);exact Rz);exact Rz;(focus (first|(simp;done)|omega|(simp;omega)))))
  rw [flat_hr,flat_bd]
  simp only [Nat.add_assoc,Nat.reduceAdd]
  have cI:=fun i=>chooseF_ge hu i
  refine e_loop (ι:={ x : Nat × (Nat→Hr) // x.1≤c.hs.length∧∀ j,j < c.hs.length→x.2 j=if j < x.1 then moH us j (c.h j) else c.h j }) (fun x=>[(1,.slice uid uoff us.length 1 uex),(2,.ptr H.length 0),(5,.bool true),(6,.ptr (H.length+4) 0),(37,.int .i64 c.hs.length),(38,.int .i64 x.1.1)])
    (fun x=>H++[.cells [.slice p.tid p.toff p.tn 9 p.tex,.slice p.bid p.boff c.bs.length 3 p.bex,.slice p.hid p.hoff c.hs.length 5 p.hex,.int .i64 c.w1,.int .i64 c.w2,.int .i64 c.y1,.int .i64 c.y2,.int .i64 c.rate,.int .i64 c.lim,.int .i64 c.base] true,.cells (l.flatMap Str.av) true,.cells (avR (bdR c) c.bs.length) true,.cells (avR (fun j=>(x.1.2 j).av) c.hs.length) true,.cells [.slice (H.length+1) 0 l.length 9 false,.slice (H.length+2) 0 c.bs.length 3 false,.slice (H.length+3) 0 c.hs.length 5 false,.int .i64 c.w1,.int .i64 c.w2,.int .i64 c.y1,.int .i64 c.y2,.int .i64 c.rate,.int .i64 c.lim,.int .i64 c.base] true]) (fun x=>c.hs.length - x.1.1) ⟨(0,c.h),by simp,fun j hj=>by simp⟩ ?_ ?_
  · exact .inl rfl
  · rintro ⟨⟨i,R⟩,hi,hR⟩
    dsimp only at hi hR ⊢
    by_cases hlt : i < c.hs.length
    · have hlt2 : (i : Int) < c.hs.length:=by omega
      have hRi:=hR i hlt
      rw [if_neg (Nat.lt_irrefl _)] at hRi
      have hho:=hc.hok i hlt
      rw [← Cv.h_eq hlt] at hho
      obtain ⟨_,hho2,hho3⟩:=hho
      have hll:=(plain_hf R).length c.hs.length
      have p3 : ((avR (fun j=>(R j).av) c.hs.length).drop (i * 5+3)).take 1=[.int .i64 (c.h i).crew]:=by rw [partH R hlt (by omega),hRi]; rfl
      have le3 : i * 5+3+1≤c.hs.length * 5:=by omega
      have c0:=cI (3 * i)
      have m0 : (chooseF us (3 * i)).tmod 2=chooseF us (3 * i) % 2:=Int.tmod_eq_emod_of_nonneg c0.1
      have m0b : 0≤chooseF us (3 * i) % 2∧chooseF us (3 * i) % 2 < 2:=by omega
      repeat (first|(with_reducible first|apply X1|apply X2|apply X5|apply X6|apply X8|apply Y9)|((with_reducible apply e_end);(simp;exact Rz))|((first|((with_reducible apply O1);rfl)|((with_reducible apply P1);rfl)|((with_reducible apply P2);rfl));(simp (disch:=omega) [hlt,hlt2,hll,le3,p3];exact Rz);exact Rz;(focus (first|(simp;done)|omega|(simp;omega))))|((with_reducible apply Z9);(simp (disch:=omega) [hlt,hlt2,hll,le3,p3];exact Rz)))
      (with_reducible apply d_call); (simp; exact Rz); exact cc _ (3 * (i : Int)) (by omega) (by omega); (focus (first | (simp; done) | (simp; omega)))
      have hput:=putH R (n:=c.hs.length) (i:=i) (k:=3) (v:=.int .i64 (if (c.h i).crew+chooseF us (3 * (i : Int)) % 2 < 12 then (c.h i).crew+chooseF us (3 * (i : Int)) % 2 else 12)) { c.h i with crew:=if (c.h i).crew+chooseF us (3 * (i : Int)) % 2 < 12 then (c.h i).crew+chooseF us (3 * (i : Int)) % 2 else 12 } hlt (by omega) (by rw [hRi]; rfl)
      repeat (first|(with_reducible first|apply X1|apply X2|apply X8)|((with_reducible apply d_end);(simp;exact Rz))|((first|((with_reducible apply O1);rfl)|((with_reducible apply P1);rfl)|((with_reducible apply P4);rfl));(simp (disch:=omega) [hlt,hlt2,hll,le3,p3,m0,-splice,hput];exact Rz);exact Rz;(focus (first|(simp;done)|omega|(simp;omega)))))
      obtain ⟨x1,hx1⟩ : ∃ x1 : Hr,x1=⟨(c.h i).m1,(c.h i).m2,(c.h i).runs,if (c.h i).crew+chooseF us (3 * (i : Int)) % 2 < 12 then (c.h i).crew+chooseF us (3 * (i : Int)) % 2 else 12,(c.h i).cold⟩:=⟨_,rfl⟩
      obtain ⟨R1,hR1⟩ : ∃ R1 : Nat→Hr,R1=fun j=>if j=i then x1 else R j:=⟨_,rfl⟩
      have eR1 : (fun j=>(if j=i then (⟨(c.h i).m1,(c.h i).m2,(c.h i).runs,if (c.h i).crew+chooseF us (3 * (i : Int)) % 2 < 12 then (c.h i).crew+chooseF us (3 * (i : Int)) % 2 else 12,(c.h i).cold⟩ : Hr) else R j).av)=fun j=>(R1 j).av:=by rw [hR1,hx1]
      rw [eR1]
      have hR1i : R1 i=x1:=by rw [hR1]; simp
      have hR1n : ∀ j,j ≠ i→R1 j=R j:=fun j hj=>by rw [hR1]; simp [hj]
      clear hput eR1 hR1 p3 hll m0
      have hll:=(plain_hf R1).length c.hs.length
      have p4 : ((avR (fun j=>(R1 j).av) c.hs.length).drop (i * 5+4)).take 1=[.bool (c.h i).cold]:=by rw [partH R1 hlt (by omega),hR1i,hx1]; rfl
      have le4 : i * 5+4+1≤c.hs.length * 5:=by omega
      have c1:=cI (3 * i+1)
      have m1 : (chooseF us (3 * i+1)).tmod 3=chooseF us (3 * i+1) % 3:=Int.tmod_eq_emod_of_nonneg c1.1
      have hput4:=fun b=>putH R1 (n:=c.hs.length) (i:=i) (k:=4) (v:=.bool b) { x1 with cold:=b } hlt (by omega) (by rw [hR1i]; rfl)
      cases hcold : (c.h i).cold with
      | true =>
        rw [hcold] at p4
        repeat (first|(with_reducible first|apply X8|apply Y9)|((with_reducible apply e_end);(simp;exact Rz))|((first|((with_reducible apply O1);rfl)|((with_reducible apply O2);rfl)|((with_reducible apply P1);rfl));(simp (disch:=omega) [hlt,hlt2,hll,le4,p4,-splice,hput4];exact Rz);exact Rz;(focus (first|(simp;done)|omega|(simp;omega))))|((with_reducible apply Z2);(simp (disch:=omega) [hlt,hlt2,hll,le4,p4,-splice,hput4];exact Rz)))
        obtain ⟨x2,hx2⟩ : ∃ x2 : Hr,x2=⟨x1.m1,x1.m2,x1.runs,x1.crew,true⟩:=⟨_,rfl⟩
        obtain ⟨R2,hR2⟩ : ∃ R2 : Nat→Hr,R2=fun j=>if j=i then x2 else R1 j:=⟨_,rfl⟩
        have eR2 : (fun j=>(if j=i then (⟨x1.m1,x1.m2,x1.runs,x1.crew,true⟩ : Hr) else R1 j).av)=fun j=>(R2 j).av:=by rw [hR2,hx2]
        rw [eR2]
        have hR2i : R2 i=x2:=by rw [hR2]; simp
        have hR2n : ∀ j,j ≠ i→R2 j=R1 j:=fun j hj=>by rw [hR2]; simp [hj]
        clear hput4 eR2 hR2 p4 hll
        have hll:=(plain_hf R2).length c.hs.length
        have p2 : ((avR (fun j=>(R2 j).av) c.hs.length).drop (i * 5+2)).take 1=[.int .i64 (c.h i).runs]:=by rw [partH R2 hlt (by omega),hR2i,hx2,hx1]; rfl
        have le2 : i * 5+2+1≤c.hs.length * 5:=by omega
        have c2:=cI (3 * i+2)
        have hne : ¬ (c.h i).runs+1=0:=by omega
        have m2 : (chooseF us (3 * i+2)).tmod ((c.h i).runs+1)=chooseF us (3 * i+2) % ((c.h i).runs+1):=Int.tmod_eq_emod_of_nonneg c2.1
        have m2a:=Int.emod_nonneg (chooseF us (3 * i+2)) hne
        have m2b:=Int.emod_lt_of_pos (chooseF us (3 * i+2)) (show 0 < (c.h i).runs+1 by omega)
        have hput2:=putH R2 (n:=c.hs.length) (i:=i) (k:=2) (v:=.int .i64 ((c.h i).runs - chooseF us (3 * i+2) % ((c.h i).runs+1))) ⟨x2.m1,x2.m2,(c.h i).runs - chooseF us (3 * i+2) % ((c.h i).runs+1),x2.crew,x2.cold⟩ hlt (by omega) (by rw [hR2i]; rfl)
        repeat ((first|((with_reducible apply P1);rfl)|((with_reducible apply P2);rfl));(simp (disch:=omega) [hlt,hlt2,hll,le2,p2];exact Rz);exact Rz;(focus (first|(simp;done)|omega|(simp;omega))))
        (with_reducible apply d_call); (simp; exact Rz); exact cc _ (3 * (i : Int)+2) (by omega) (by omega); (focus (first | (simp; done) | (simp; omega)))
        repeat (first|(with_reducible first|apply X2|apply X8|apply Y2)|((with_reducible first|apply e_end|apply d_end);(simp;exact Rz))|((first|((with_reducible apply O1);rfl)|((with_reducible apply P1);rfl)|((with_reducible apply P4);rfl));(simp (disch:=omega) [hlt,hlt2,hll,le2,p2,m2,hne,-splice,hput2];exact Rz);exact Rz;(focus (first|(simp;done)|omega|(simp;omega))))|((with_reducible apply P6);rfl;(simp (disch:=omega) [hlt,hlt2,hll,le2,p2,m2,hne,-splice,hput2];exact Rz);exact Rz;(focus (first|(simp [pr];done)|(simp [pr];omega)))))
        refine q_again ⟨(i+1,fun j=>if j=i then ⟨x2.m1,x2.m2,(c.h i).runs - chooseF us (3 * i+2) % ((c.h i).runs+1),x2.crew,x2.cold⟩ else R2 j),hlt,fun j hj=>?_⟩ (by dsimp only; omega) (.inl (by simp))
        dsimp only
        by_cases hji : j=i
        · subst hji
          rw [if_pos rfl,if_pos (by omega),hx2,hx1]
          simp only [moH,hcold,Bool.true_or,Bool.false_or]
          congr 1
          split <;> omega
        · rw [if_neg hji,hR2n j hji,hR1n j hji,hR j hj]
          have : (j < i)↔(j < i+1):=by omega
          simp only [this]
      | false =>
        rw [hcold] at p4
        repeat (first|((with_reducible apply O1);rfl;(simp (disch:=omega) [hlt,hlt2,hll,le4,p4];exact Rz);exact Rz;(focus (first|(simp;done)|omega|(simp;omega))))|((with_reducible apply Z7);(simp (disch:=omega) [hlt,hlt2,hll,le4,p4];exact Rz)))
        (with_reducible apply e_call); (simp; exact Rz); exact cc _ (3 * (i : Int)+1) (by omega) (by omega)
        rintro _ _ ⟨rfl,rfl⟩
        repeat (first|(with_reducible first|apply X8|apply Y9)|((with_reducible apply e_end);(simp;exact Rz))|((first|((with_reducible apply O1);rfl)|((with_reducible apply O2);rfl)|((with_reducible apply P1);rfl));(simp (disch:=omega) [hlt,hlt2,hll,le4,p4,m1,-splice,hput4];exact Rz);exact Rz;(focus (first|(simp;done)|omega|(simp;omega))))|((with_reducible apply Z7);(simp (disch:=omega) [hlt,hlt2,hll,le4,p4,m1,-splice,hput4];exact Rz)))
        obtain ⟨x2,hx2⟩ : ∃ x2 : Hr,x2=⟨x1.m1,x1.m2,x1.runs,x1.crew,decide (chooseF us (3 * (i : Int)+1) % 3=0)⟩:=⟨_,rfl⟩
        obtain ⟨R2,hR2⟩ : ∃ R2 : Nat→Hr,R2=fun j=>if j=i then x2 else R1 j:=⟨_,rfl⟩
        have eR2 : (fun j=>(if j=i then (⟨x1.m1,x1.m2,x1.runs,x1.crew,decide (chooseF us (3 * (i : Int)+1) % 3=0)⟩ : Hr) else R1 j).av)=fun j=>(R2 j).av:=by rw [hR2,hx2]
        rw [eR2]
        have hR2i : R2 i=x2:=by rw [hR2]; simp
        have hR2n : ∀ j,j ≠ i→R2 j=R1 j:=fun j hj=>by rw [hR2]; simp [hj]
        clear hput4 eR2 hR2 p4 hll
        have hll:=(plain_hf R2).length c.hs.length
        have p2 : ((avR (fun j=>(R2 j).av) c.hs.length).drop (i * 5+2)).take 1=[.int .i64 (c.h i).runs]:=by rw [partH R2 hlt (by omega),hR2i,hx2,hx1]; rfl
        have le2 : i * 5+2+1≤c.hs.length * 5:=by omega
        have c2:=cI (3 * i+2)
        have hne : ¬ (c.h i).runs+1=0:=by omega
        have m2 : (chooseF us (3 * i+2)).tmod ((c.h i).runs+1)=chooseF us (3 * i+2) % ((c.h i).runs+1):=Int.tmod_eq_emod_of_nonneg c2.1
        have m2a:=Int.emod_nonneg (chooseF us (3 * i+2)) hne
        have m2b:=Int.emod_lt_of_pos (chooseF us (3 * i+2)) (show 0 < (c.h i).runs+1 by omega)
        have hput2:=putH R2 (n:=c.hs.length) (i:=i) (k:=2) (v:=.int .i64 ((c.h i).runs - chooseF us (3 * i+2) % ((c.h i).runs+1))) ⟨x2.m1,x2.m2,(c.h i).runs - chooseF us (3 * i+2) % ((c.h i).runs+1),x2.crew,x2.cold⟩ hlt (by omega) (by rw [hR2i]; rfl)
        repeat ((first|((with_reducible apply P1);rfl)|((with_reducible apply P2);rfl));(simp (disch:=omega) [hlt,hlt2,hll,le2,p2];exact Rz);exact Rz;(focus (first|(simp;done)|omega|(simp;omega))))
        (with_reducible apply d_call); (simp; exact Rz); exact cc _ (3 * (i : Int)+2) (by omega) (by omega); (focus (first | (simp; done) | (simp; omega)))
        repeat (first|(with_reducible first|apply X2|apply X8|apply Y2)|((with_reducible first|apply e_end|apply d_end);(simp;exact Rz))|((first|((with_reducible apply O1);rfl)|((with_reducible apply P1);rfl)|((with_reducible apply P4);rfl));(simp (disch:=omega) [hlt,hlt2,hll,le2,p2,m2,hne,-splice,hput2];exact Rz);exact Rz;(focus (first|(simp;done)|omega|(simp;omega))))|((with_reducible apply P6);rfl;(simp (disch:=omega) [hlt,hlt2,hll,le2,p2,m2,hne,-splice,hput2];exact Rz);exact Rz;(focus (first|(simp [pr];done)|(simp [pr];omega)))))
        refine q_again ⟨(i+1,fun j=>if j=i then ⟨x2.m1,x2.m2,(c.h i).runs - chooseF us (3 * i+2) % ((c.h i).runs+1),x2.crew,x2.cold⟩ else R2 j),hlt,fun j hj=>?_⟩ (by dsimp only; omega) (.inl (by simp))
        dsimp only
        by_cases hji : j=i
        · subst hji
          rw [if_pos rfl,if_pos (by omega),hx2,hx1]
          simp only [moH,hcold,Bool.true_or,Bool.false_or]
          congr 1
          split <;> omega
        · rw [if_neg hji,hR2n j hji,hR1n j hji,hR j hj]
          have : (j < i)↔(j < i+1):=by omega
          simp only [this]
    · have hlt2 : ¬ (i : Int) < c.hs.length:=by omega
      obtain rfl : i=c.hs.length:=by omega
      have hRf : avR (fun j=>(R j).av) c.hs.length=(c.mo us).hs.flatMap Hr.av:=by
        rw [flat_hr]
        have e : (c.mo us).hs.length=c.hs.length:=by simp [Cv.mo]
        rw [e]
        refine avR_congr fun j hj=>?_
        simp only [hrR]
        rw [hR j hj,if_pos hj,mo_h hj]
      rw [hRf]
      clear hR hRf R
      repeat (first|(with_reducible first|apply X1|apply X2|apply X4|apply X6|apply X8|apply Y1|apply Y4|apply Y6)|((with_reducible apply e_end);(simp;exact Rz))|((with_reducible apply O1);rfl;(simp (disch:=omega) [hlt2];exact Rz);exact Rz;(focus (first|(simp;done)|omega|(simp;omega))))|((with_reducible apply W3);(simp (disch:=omega) [hlt2];exact Rz)))
      refine e_loop (ι:={ x : Nat × (Nat→Bd) // x.1≤c.bs.length∧∀ j,j < c.bs.length→x.2 j=if j < x.1 then moB us j (c.b j) else c.b j }) (fun x=>[(1,.slice uid uoff us.length 1 uex),(2,.ptr H.length 0),(5,.bool true),(6,.ptr (H.length+4) 0),(96,.int .i64 c.bs.length),(97,.int .i64 x.1.1)])
        (fun x=>H++[.cells [.slice p.tid p.toff p.tn 9 p.tex,.slice p.bid p.boff c.bs.length 3 p.bex,.slice p.hid p.hoff c.hs.length 5 p.hex,.int .i64 c.w1,.int .i64 c.w2,.int .i64 c.y1,.int .i64 c.y2,.int .i64 c.rate,.int .i64 c.lim,.int .i64 c.base] true,.cells (l.flatMap Str.av) true,.cells (avR (fun j=>(x.1.2 j).av) c.bs.length) true,.cells ((c.mo us).hs.flatMap Hr.av) true,.cells [.slice (H.length+1) 0 l.length 9 false,.slice (H.length+2) 0 c.bs.length 3 false,.slice (H.length+3) 0 c.hs.length 5 false,.int .i64 c.w1,.int .i64 c.w2,.int .i64 c.y1,.int .i64 c.y2,.int .i64 c.rate,.int .i64 c.lim,.int .i64 c.base] true]) (fun x=>c.bs.length - x.1.1) ⟨(0,c.b),by simp,fun j hj=>by simp⟩ ?_ ?_
      · exact .inl rfl
      · rintro ⟨⟨i,R⟩,hi,hR⟩
        dsimp only at hi hR ⊢
        by_cases hlt : i < c.bs.length
        · have hlt2 : (i : Int) < c.bs.length:=by omega
          have hRi:=hR i hlt
          rw [if_neg (Nat.lt_irrefl _)] at hRi
          have hbo:=hc.bok i hlt
          rw [← Cv.b_eq hlt] at hbo
          obtain ⟨hbo2,hbo3⟩:=hbo
          have hll:=(plain_bf R).length c.bs.length
          have p2 : ((avR (fun j=>(R j).av) c.bs.length).drop (i * 3+2)).take 1=[.int .i64 (c.b i).sun]:=by rw [partB R hlt (by omega),hRi]; rfl
          have le2 : i * 3+2+1≤c.bs.length * 3:=by omega
          have c0:=cI (30+2 * i)
          have hne : ¬ (c.b i).sun+1=0:=by omega
          have m2 : (chooseF us (30+2 * i)).tmod ((c.b i).sun+1)=chooseF us (30+2 * i) % ((c.b i).sun+1):=Int.tmod_eq_emod_of_nonneg c0.1
          have m2a:=Int.emod_nonneg (chooseF us (30+2 * i)) hne
          have m2b:=Int.emod_lt_of_pos (chooseF us (30+2 * i)) (show 0 < (c.b i).sun+1 by omega)
          have hput2:=putB R (n:=c.bs.length) (i:=i) (k:=2) (vs:=[.int .i64 ((c.b i).sun - chooseF us (30+2 * i) % ((c.b i).sun+1))]) ⟨(c.b i).lo,(c.b i).hi,(c.b i).sun - chooseF us (30+2 * i) % ((c.b i).sun+1)⟩ hlt (by simp) (by rw [hRi]; rfl)
          repeat (first|(with_reducible first|apply X1|apply X2|apply X5|apply X6|apply X8|apply Y9)|((with_reducible apply e_end);(simp;exact Rz))|((first|((with_reducible apply O1);rfl)|((with_reducible apply P1);rfl)|((with_reducible apply P2);rfl));(simp (disch:=omega) [hlt,hlt2,hll,le2,p2];exact Rz);exact Rz;(focus (first|(simp;done)|omega|(simp;omega))))|((with_reducible apply Z9);(simp (disch:=omega) [hlt,hlt2,hll,le2,p2];exact Rz)))
          (with_reducible apply d_call); (simp; exact Rz); exact cc _ (30+2 * (i : Int)) (by omega) (by omega); (focus (first | (simp; done) | (simp; omega)))
          repeat (first|(with_reducible first|apply X1|apply X2|apply X8)|((with_reducible apply d_end);(simp;exact Rz))|((first|((with_reducible apply O1);rfl)|((with_reducible apply P1);rfl)|((with_reducible apply P4);rfl));(simp (disch:=omega) [hlt,hlt2,hll,le2,p2,m2,hne,-splice,hput2];exact Rz);exact Rz;(focus (first|(simp;done)|omega|(simp;omega))))|((with_reducible apply P6);rfl;(simp (disch:=omega) [hlt,hlt2,hll,le2,p2,m2,hne,-splice,hput2];exact Rz);exact Rz;(focus (first|(simp [pr];done)|(simp [pr];omega)))))
          obtain ⟨x1,hx1⟩ : ∃ x1 : Bd,x1=⟨(c.b i).lo,(c.b i).hi,(c.b i).sun - chooseF us (30+2 * i) % ((c.b i).sun+1)⟩:=⟨_,rfl⟩
          obtain ⟨R1,hR1⟩ : ∃ R1 : Nat→Bd,R1=fun j=>if j=i then x1 else R j:=⟨_,rfl⟩
          have eR1 : (fun j=>(if j=i then (⟨(c.b i).lo,(c.b i).hi,(c.b i).sun - chooseF us (30+2 * i) % ((c.b i).sun+1)⟩ : Bd) else R j).av)=fun j=>(R1 j).av:=by rw [hR1,hx1]
          rw [eR1]
          have hR1i : R1 i=x1:=by rw [hR1]; simp
          have hR1n : ∀ j,j ≠ i→R1 j=R j:=fun j hj=>by rw [hR1]; simp [hj]
          clear hput2 eR1 hR1 p2 hll
          have hll:=(plain_bf R1).length c.bs.length
          have p0 : ((avR (fun j=>(R1 j).av) c.bs.length).drop (i * 3)).take 1=[.int .i64 (c.b i).lo]:=by
            have:=partB R1 (k:=0) (m:=1) hlt (by omega)
            rw [Nat.add_zero] at this
            rw [this,hR1i,hx1]; rfl
          have p1 : ((avR (fun j=>(R1 j).av) c.bs.length).drop (i * 3+1)).take 1=[.int .i64 (c.b i).hi]:=by rw [partB R1 hlt (by omega),hR1i,hx1]; rfl
          have le0 : i * 3+1≤c.bs.length * 3:=by omega
          have le1 : i * 3+1+1≤c.bs.length * 3:=by omega
          have le3 : i * 3+2≤c.bs.length * 3:=by omega
          have c1:=cI (31+2 * i)
          have m1 : (chooseF us (31+2 * i)).tmod 40=chooseF us (31+2 * i) % 40:=Int.tmod_eq_emod_of_nonneg c1.1
          have m1b : 0≤chooseF us (31+2 * i) % 40∧chooseF us (31+2 * i) % 40 < 40:=by omega
          (with_reducible apply e_call); (simp; exact Rz); exact cc _ (31+2 * (i : Int)) (by omega) (by omega)
          rintro _ _ ⟨rfl,rfl⟩
          repeat (first|(with_reducible first|apply X8|apply Y9)|((with_reducible apply e_end);(simp;exact Rz))|((first|((with_reducible apply O1);rfl)|((with_reducible apply P1);rfl)|((with_reducible apply P2);rfl));(simp (disch:=omega) [hlt,hlt2,hll,le0,le1,p0,p1,m1];exact Rz);exact Rz;(focus (first|(simp;done)|omega|(simp;omega)))))
          (with_reducible apply d_call); (simp; exact Rz); exact c_l2span _ _ _; (focus (first | (simp; done) | (simp; omega)))
          have hput0:=putB R1 (n:=c.bs.length) (i:=i) (k:=0) (vs:=[.int .i64 (if (c.b i).lo+chooseF us (31+2 * (i : Int)) % 40 < 2000 then (c.b i).lo+chooseF us (31+2 * (i : Int)) % 40 else 2000),.int .i64 (if (c.b i).hi+chooseF us (31+2 * (i : Int)) % 40 < 2000 then (c.b i).hi+chooseF us (31+2 * (i : Int)) % 40 else 2000)]) ⟨(if (c.b i).lo+chooseF us (31+2 * (i : Int)) % 40 < 2000 then (c.b i).lo+chooseF us (31+2 * (i : Int)) % 40 else 2000),(if (c.b i).hi+chooseF us (31+2 * (i : Int)) % 40 < 2000 then (c.b i).hi+chooseF us (31+2 * (i : Int)) % 40 else 2000),x1.sun⟩ hlt (by simp) (by rw [hR1i]; rfl)
          rw [Nat.add_zero] at hput0
          repeat (first|(with_reducible first|apply X2|apply X8|apply Y2)|((with_reducible first|apply e_end|apply d_end);(simp;exact Rz))|((first|((with_reducible apply O1);rfl)|((with_reducible apply P1);rfl)|((with_reducible apply P4);rfl));(simp (disch:=omega) [hlt,hlt2,hll,le0,le1,le3,p0,p1,m1,-splice,hput0];exact Rz);exact Rz;(focus (first|(simp;done)|omega|(simp;omega)))))
          refine q_again ⟨(i+1,fun j=>if j=i then ⟨(if (c.b i).lo+chooseF us (31+2 * (i : Int)) % 40 < 2000 then (c.b i).lo+chooseF us (31+2 * (i : Int)) % 40 else 2000),(if (c.b i).hi+chooseF us (31+2 * (i : Int)) % 40 < 2000 then (c.b i).hi+chooseF us (31+2 * (i : Int)) % 40 else 2000),x1.sun⟩ else R1 j),hlt,fun j hj=>?_⟩ (by dsimp only; omega) (.inl (by simp))
          dsimp only
          by_cases hji : j=i
          · subst hji
            simp only [if_true,if_pos (Nat.lt_succ_self j),hx1,moB]
            congr 1
            · split <;> omega
            · split <;> omega
          · rw [if_neg hji,hR1n j hji,hR j hj]
            have : (j < i)↔(j < i+1):=by omega
            simp only [this]
        · have hlt2 : ¬ (i : Int) < c.bs.length:=by omega
          obtain rfl : i=c.bs.length:=by omega
          have hRf : avR (fun j=>(R j).av) c.bs.length=(c.mo us).bs.flatMap Bd.av:=by
            rw [flat_bd]
            have e : (c.mo us).bs.length=c.bs.length:=by simp [Cv.mo]
            rw [e]
            refine avR_congr fun j hj=>?_
            simp only [bdR]
            rw [hR j hj,if_pos hj,mo_b hj]
          rw [hRf]
          clear hR hRf R
          have hco:=mo_ok (us:=us) hc cI
          have hbl:=mo_bl c us
          have hhl:=mo_hl c us
          have flb2 : ((c.mo us).bs.flatMap Bd.av).length=c.bs.length * 3:=by rw [flat_bd,(plain_bd _).length,hbl]
          have flh2 : ((c.mo us).hs.flatMap Hr.av).length=c.hs.length * 5:=by rw [flat_hr,(plain_hr _).length,hhl]
          have fll : (l.flatMap Str.av).length=l.length * 9:=by rw [flat_eq]; exact (plain_str l).length _
          obtain ⟨M,hM⟩ : ∃ M,M=H++[.cells [.slice p.tid p.toff p.tn 9 p.tex,.slice p.bid p.boff c.bs.length 3 p.bex,.slice p.hid p.hoff c.hs.length 5 p.hex,.int .i64 c.w1,.int .i64 c.w2,.int .i64 c.y1,.int .i64 c.y2,.int .i64 c.rate,.int .i64 c.lim,.int .i64 c.base] true,.cells (l.flatMap Str.av) true,.cells ((c.mo us).bs.flatMap Bd.av) true,.cells ((c.mo us).hs.flatMap Hr.av) true,.cells [.slice (H.length+1) 0 l.length 9 false,.slice (H.length+2) 0 c.bs.length 3 false,.slice (H.length+3) 0 c.hs.length 5 false,.int .i64 c.w1,.int .i64 c.w2,.int .i64 c.y1,.int .i64 c.y2,.int .i64 c.rate,.int .i64 c.lim,.int .i64 c.base] true]:=⟨_,rfl⟩
          have hMl : M.length=H.length+5:=by rw [hM]; simp
          have hcM : ∀ T,CvAt (M++T) c p:=fun T=>by rw [hM,List.append_assoc]; exact hpA _
          have htM : ∀ T,TrAt (M++T) l p:=fun T=>by rw [hM,List.append_assoc]; exact htA _
          have hdM : ∀ T,CvAt (M++T) (c.mo us) ⟨H.length+1,0,false,l.length,H.length+2,0,false,H.length+3,0,false⟩:=fun T=>by
            refine CvAt.app ⟨by rw [hMl]; dsimp only; omega,?_,?_⟩ T
            · rw [hM,hbl]; simp [flb2]
              exact List.take_of_length_le (by omega)
            · rw [hM,hhl]; simp [flh2]
              exact List.take_of_length_le (by omega)
          have htd : ∀ T,TrAt (M++T) l ⟨H.length+1,0,false,l.length,H.length+2,0,false,H.length+3,0,false⟩:=fun T=>by
            refine TrAt.app ⟨rfl,?_⟩ T
            rw [hM]; simp [fll]
            exact List.take_of_length_le (by omega)
          have hbM : ∀ T,rd (M++T) H.length 0 10=some [.slice p.tid p.toff p.tn 9 p.tex,.slice p.bid p.boff c.bs.length 3 p.bex,.slice p.hid p.hoff c.hs.length 5 p.hex,.int .i64 c.w1,.int .i64 c.w2,.int .i64 c.y1,.int .i64 c.y2,.int .i64 c.rate,.int .i64 c.lim,.int .i64 c.base]:=fun T=>by rw [rd_old _ (by omega)]; rw [hM]; simp
          have hbD : ∀ T,rd (M++T) (H.length+4) 0 10=some [.slice (H.length+1) 0 l.length 9 false,.slice (H.length+2) 0 c.bs.length 3 false,.slice (H.length+3) 0 c.hs.length 5 false,.int .i64 c.w1,.int .i64 c.w2,.int .i64 c.y1,.int .i64 c.y2,.int .i64 c.rate,.int .i64 c.lim,.int .i64 c.base]:=fun T=>by rw [rd_old _ (by omega)]; rw [hM]; simp
          have huM : ∀ T,rd (M++T) uid uoff us.length=some (us.map (.int .u32)):=fun T=>by rw [hM,List.append_assoc,rd_old _ huid]; exact hb
          have kd:=c_drawn2 (M++[]) l c p (hcM []) hc hv us 60 uid uoff uex (huM []) hu hun (by omega)
          have ksc:=fun T=>c_iSafeV (M++T) l c p (hcM T) (htM T) hv hc
          have ksd:=fun T=>c_iSafeV (M++T) l (c.mo us) _ (hdM T) (htd T) hv hco
          have knc:=fun T=>c_iNeedV (M++T) l c p (hcM T) (htM T) hc hv
          have knd:=fun T=>c_iNeedV (M++T) l (c.mo us) _ (hdM T) (htd T) hco hv
          have kpc:=fun T=>c_PlanV (M++T) l c p (hcM T) (htM T) hc hv
          have kpd:=fun T=>c_PlanV (M++T) l (c.mo us) _ (hdM T) (htd T) hco hv
          have hokp:=plnL_okPl hc us 60
          have hbs0 : ¬ c.bs.length=0:=by omega
          have elv : ∀ Z,lsV Z 1 c.bs.length=.slice Z.length 0 c.bs.length 1 false:=fun Z=>by simp [lsV,hbs0]
          have elo : ∀ cs,lsO c.bs.length cs=[.cells cs true]:=fun cs=>by simp [lsO,hbs0]
          simp only [Cv.av,hbl,hhl,mo_w1,mo_w2,mo_y1,mo_y2,mo_rate,mo_lim,mo_base,elv,elo,iv_tn] at kd ksc ksd knc knd kpc kpd
          rw [List.append_nil] at kd
          have hbM0:=hbM []
          rw [List.append_nil] at hbM0
          rw [← hM]
          clear hM kr kp kt cc
          repeat (first|(with_reducible first|apply X1|apply X2|apply X4|apply X8|apply Y1|apply Y4|apply Y6)|((with_reducible apply e_end);(simp;exact Rz))|((with_reducible apply O1);rfl;(simp (disch:=omega) [hlt2,hbM0];exact Rz);exact Rz;(focus (first|(simp;done)|omega|(simp;omega))))|((with_reducible apply W3);(simp (disch:=omega) [hlt2,hbM0];exact Rz)))
          (with_reducible apply e_call); (simp; exact Rz); exact kd
          rintro pl _ ⟨G,rfl,hpl⟩
          generalize hL : (fun h=>plnL c us 60 h c.bs.length)=L at *
          have hokd:=mo_okPl hc cI hokp
          have hplT:=fun T=>hpl.app T
          have hsm:=mo_safe hc cI L
          have hsr:=safeF_in2 c L
          have hsr2:=safeF_in2 (c.mo us) L
          obtain ⟨pid,poff,pex,rfl,hpid,hrow⟩:=hpl.get
          have hplG : ∀ T,PlAt (M++(G++T)) (.slice pid poff c.hs.length 1 pex) c.hs.length L:=fun T=>by have:=hplT T; rwa [List.append_assoc] at this
          have ks1:=ksc G _ L hpl hokp
          have ks2:=ksd G _ L hpl hokd
          repeat (first|(with_reducible first|apply X1|apply X2|apply X8)|((with_reducible apply e_end);(simp;exact Rz))|((with_reducible apply O1);rfl;(simp (disch:=omega) [hbM,hbD];exact Rz);exact Rz;(focus (first|(simp;done)|omega|(simp;omega)))))
          (with_reducible apply e_call); (simp; exact Rz); exact ks1
          rintro _ _ ⟨rfl,rfl⟩
          repeat (first|(with_reducible first|apply X1|apply X2|apply X8)|((with_reducible apply e_end);(simp;exact Rz))|((with_reducible apply O1);rfl;(simp (disch:=omega) [hbM,hbD];exact Rz);exact Rz;(focus (first|(simp;done)|omega|(simp;omega)))))
          (with_reducible apply e_call); (simp; exact Rz); exact ks2
          rintro _ _ ⟨rfl,rfl⟩
          repeat (first|(with_reducible first|apply X1|apply X2|apply X8)|((with_reducible apply e_end);(simp;exact Rz))|((with_reducible apply O1);rfl;(simp (disch:=omega) [hbM,hbD];exact Rz);exact Rz;(focus (first|(simp;done)|omega|(simp;omega)))))
          (with_reducible apply e_call); (simp; exact Rz); exact knc _
          rintro _ _ ⟨rfl,rfl⟩
          repeat (first|(with_reducible first|apply X1|apply X2|apply X8)|((with_reducible apply e_end);(simp;exact Rz))|((with_reducible apply O1);rfl;(simp (disch:=omega) [hbM,hbD];exact Rz);exact Rz;(focus (first|(simp;done)|omega|(simp;omega)))))
          (with_reducible apply e_call); (simp; exact Rz); exact knd _
          rintro _ _ ⟨rfl,rfl⟩
          repeat (first|(with_reducible first|apply X1|apply X2|apply X8)|((with_reducible apply e_end);(simp;exact Rz))|((with_reducible apply O1);rfl;(simp (disch:=omega) [hbM,hbD];exact Rz);exact Rz;(focus (first|(simp;done)|omega|(simp;omega)))))
          (with_reducible apply e_call); (simp; exact Rz); exact kpc _
          have hts : ¬ safeF (c.mo us) L < safeF c L:=by omega
          rintro _ _ (⟨pl1,G1,L1,rfl,rfl,_,hb1⟩ | ⟨hst1,rfl,rfl⟩)
          · repeat (first|(with_reducible first|apply X1|apply X2|apply X8)|((with_reducible apply e_end);(simp;exact Rz))|((with_reducible apply O1);rfl;(simp (disch:=omega) [hbM,hbD];exact Rz);exact Rz;(focus (first|(simp;done)|omega|(simp;omega)))))
            (with_reducible apply e_call); (simp; exact Rz); exact kpd _
            rintro _ _ (⟨pl2,G2,L2,rfl,rfl,_,hb2⟩ | ⟨hst2,rfl,rfl⟩)
            · repeat (first|(with_reducible first|apply X1|apply X2|apply X5|apply X6|apply X8)|((with_reducible apply e_end);(simp;exact Rz))|((with_reducible apply O1);rfl;(simp (disch:=omega) [hts];exact Rz);exact Rz;(focus (first|(simp;done)|omega|(simp;omega))))|((with_reducible apply Z7);(simp (disch:=omega) [hts];exact Rz))|((with_reducible apply W3);(simp (disch:=omega) [hts];exact Rz)))
              refine e_loop (ι:={ i : Nat // i≤c.bs.length }) (fun i=>[(5,.bool true),(17,.slice (M.length+G.length) 0 c.bs.length 1 false),(19,.slice (M.length+(G.length+1)) 0 c.bs.length 1 false),(219,.int .i64 c.bs.length),(220,.int .i64 i.1)])
                (fun _=>M++(G++.cells (avL (fun s=>ndF c s c.hs.length) c.bs.length) true :: .cells (avL (fun s=>ndF (c.mo us) s c.hs.length) c.bs.length) true :: (G1++G2))) (fun i=>c.bs.length - i.1) ⟨0,by simp⟩ ?_ ?_
              · exact .inl rfl
              · rintro ⟨i,hi⟩
                dsimp only
                by_cases hil : i < c.bs.length
                · have hil2 : (i : Int) < c.bs.length:=by omega
                  have hl1 : i+1≤c.bs.length:=hil
                  have l1:=avL_one (f:=fun s=>ndF c s c.hs.length) hil
                  have l2:=avL_one (f:=fun s=>ndF (c.mo us) s c.hs.length) hil
                  have hnn:=mo_nd hc cI hil (h:=c.hs.length) (Nat.le_refl _)
                  have hn2 : ¬ ndF c i c.hs.length < ndF (c.mo us) i c.hs.length:=by omega
                  repeat (first|(with_reducible first|apply X1|apply X2|apply X5|apply X6|apply X8|apply Y2|apply Y9)|((with_reducible first|apply e_end|apply d_end);(simp;exact Rz))|((first|((with_reducible apply O1);rfl)|((with_reducible apply P1);rfl)|((with_reducible apply P2);rfl));(simp (disch:=omega) [hil,hil2,hl1,avL_length,l1,l2,hn2];exact Rz);exact Rz;(focus (first|(simp;done)|omega|(simp;omega))))|((with_reducible apply Z9);(simp (disch:=omega) [hil,hil2,hl1,avL_length,l1,l2,hn2];exact Rz))|((with_reducible apply W3);(simp (disch:=omega) [hil,hil2,hl1,avL_length,l1,l2,hn2];exact Rz)))
                  exact q_again ⟨i+1,hil⟩ (by dsimp only; omega) (.inl (by simp))
                · have hil2 : ¬ (i : Int) < c.bs.length:=by omega
                  repeat (first|(with_reducible first|apply X1|apply X2|apply X3|apply X4|apply X8|apply Y1|apply Y4|apply Y6)|((with_reducible apply e_end);(simp;exact Rz))|((with_reducible apply O1);rfl;(simp (disch:=omega) [hil,hil2];exact Rz);exact Rz;(focus (first|(simp;done)|omega|(simp;omega))))|((with_reducible apply W3);(simp (disch:=omega) [hil,hil2];exact Rz)))
                  exact q_stay (.inr rfl) (by simp; exact Rz) rfl
            · exact absurd (mo_feas hc hb12 cI ((feas0_iff hb12 h8.2).2 ⟨inP L1,hb1.good.rows,hb1.good.needs⟩)) (hst2.no (by rw [hhl]; omega))
          · repeat (first|(with_reducible first|apply X1|apply X2|apply X8)|((with_reducible apply e_end);(simp;exact Rz))|((with_reducible apply O1);rfl;(simp (disch:=omega) [hbM,hbD];exact Rz);exact Rz;(focus (first|(simp;done)|omega|(simp;omega)))))
            (with_reducible apply e_call); (simp; exact Rz); exact kpd _
            rintro _ _ (⟨pl2,G2,L2,rfl,rfl,_,hb2⟩ | ⟨hst2,rfl,rfl⟩)
            · repeat (first|(with_reducible first|apply X1|apply X2|apply X5|apply X6|apply X8)|((with_reducible apply e_end);(simp;exact Rz))|((with_reducible apply O1);rfl;(simp (disch:=omega) [hts];exact Rz);exact Rz;(focus (first|(simp;done)|omega|(simp;omega))))|((with_reducible apply Z7);(simp (disch:=omega) [hts];exact Rz))|((with_reducible apply Z1);(simp (disch:=omega) [hts];exact Rz))|((with_reducible apply W3);(simp (disch:=omega) [hts];exact Rz)))
              refine e_loop (ι:={ i : Nat // i≤c.bs.length }) (fun i=>[(5,.bool true),(17,.slice (M.length+G.length) 0 c.bs.length 1 false),(19,.slice (M.length+(G.length+1)) 0 c.bs.length 1 false),(219,.int .i64 c.bs.length),(220,.int .i64 i.1)])
                (fun _=>M++(G++.cells (avL (fun s=>ndF c s c.hs.length) c.bs.length) true :: .cells (avL (fun s=>ndF (c.mo us) s c.hs.length) c.bs.length) true :: G2)) (fun i=>c.bs.length - i.1) ⟨0,by simp⟩ ?_ ?_
              · exact .inl rfl
              · rintro ⟨i,hi⟩
                dsimp only
                by_cases hil : i < c.bs.length
                · have hil2 : (i : Int) < c.bs.length:=by omega
                  have hl1 : i+1≤c.bs.length:=hil
                  have l1:=avL_one (f:=fun s=>ndF c s c.hs.length) hil
                  have l2:=avL_one (f:=fun s=>ndF (c.mo us) s c.hs.length) hil
                  have hnn:=mo_nd hc cI hil (h:=c.hs.length) (Nat.le_refl _)
                  have hn2 : ¬ ndF c i c.hs.length < ndF (c.mo us) i c.hs.length:=by omega
                  repeat (first|(with_reducible first|apply X1|apply X2|apply X5|apply X6|apply X8|apply Y2|apply Y9)|((with_reducible first|apply e_end|apply d_end);(simp;exact Rz))|((first|((with_reducible apply O1);rfl)|((with_reducible apply P1);rfl)|((with_reducible apply P2);rfl));(simp (disch:=omega) [hil,hil2,hl1,avL_length,l1,l2,hn2];exact Rz);exact Rz;(focus (first|(simp;done)|omega|(simp;omega))))|((with_reducible apply Z9);(simp (disch:=omega) [hil,hil2,hl1,avL_length,l1,l2,hn2];exact Rz))|((with_reducible apply W3);(simp (disch:=omega) [hil,hil2,hl1,avL_length,l1,l2,hn2];exact Rz)))
                  exact q_again ⟨i+1,hil⟩ (by dsimp only; omega) (.inl (by simp))
                · have hil2 : ¬ (i : Int) < c.bs.length:=by omega
                  repeat (first|(with_reducible first|apply X1|apply X2|apply X3|apply X4|apply X8|apply Y1|apply Y4|apply Y6)|((with_reducible apply e_end);(simp;exact Rz))|((with_reducible apply O1);rfl;(simp (disch:=omega) [hil,hil2];exact Rz);exact Rz;(focus (first|(simp;done)|omega|(simp;omega))))|((with_reducible apply W3);(simp (disch:=omega) [hil,hil2];exact Rz)))
                  exact q_stay (.inr rfl) (by simp; exact Rz) rfl
            · repeat (first|(with_reducible first|apply X1|apply X2|apply X5|apply X6|apply X8)|((with_reducible apply e_end);(simp;exact Rz))|((with_reducible apply O1);rfl;(simp (disch:=omega) [hts];exact Rz);exact Rz;(focus (first|(simp;done)|omega|(simp;omega))))|((with_reducible apply Z7);(simp (disch:=omega) [hts];exact Rz))|((with_reducible apply Z1);(simp (disch:=omega) [hts];exact Rz))|((with_reducible apply W3);(simp (disch:=omega) [hts];exact Rz)))
              refine e_loop (ι:={ i : Nat // i≤c.bs.length }) (fun i=>[(5,.bool true),(17,.slice (M.length+G.length) 0 c.bs.length 1 false),(19,.slice (M.length+(G.length+1)) 0 c.bs.length 1 false),(219,.int .i64 c.bs.length),(220,.int .i64 i.1)])
                (fun _=>M++(G++.cells (avL (fun s=>ndF c s c.hs.length) c.bs.length) true :: .cells (avL (fun s=>ndF (c.mo us) s c.hs.length) c.bs.length) true :: [])) (fun i=>c.bs.length - i.1) ⟨0,by simp⟩ ?_ ?_
              · exact .inl rfl
              · rintro ⟨i,hi⟩
                dsimp only
                by_cases hil : i < c.bs.length
                · have hil2 : (i : Int) < c.bs.length:=by omega
                  have hl1 : i+1≤c.bs.length:=hil
                  have l1:=avL_one (f:=fun s=>ndF c s c.hs.length) hil
                  have l2:=avL_one (f:=fun s=>ndF (c.mo us) s c.hs.length) hil
                  have hnn:=mo_nd hc cI hil (h:=c.hs.length) (Nat.le_refl _)
                  have hn2 : ¬ ndF c i c.hs.length < ndF (c.mo us) i c.hs.length:=by omega
                  repeat (first|(with_reducible first|apply X1|apply X2|apply X5|apply X6|apply X8|apply Y2|apply Y9)|((with_reducible first|apply e_end|apply d_end);(simp;exact Rz))|((first|((with_reducible apply O1);rfl)|((with_reducible apply P1);rfl)|((with_reducible apply P2);rfl));(simp (disch:=omega) [hil,hil2,hl1,avL_length,l1,l2,hn2];exact Rz);exact Rz;(focus (first|(simp;done)|omega|(simp;omega))))|((with_reducible apply Z9);(simp (disch:=omega) [hil,hil2,hl1,avL_length,l1,l2,hn2];exact Rz))|((with_reducible apply W3);(simp (disch:=omega) [hil,hil2,hl1,avL_length,l1,l2,hn2];exact Rz)))
                  exact q_again ⟨i+1,hil⟩ (by dsimp only; omega) (.inl (by simp))
                · have hil2 : ¬ (i : Int) < c.bs.length:=by omega
                  repeat (first|(with_reducible first|apply X1|apply X2|apply X3|apply X4|apply X8|apply Y1|apply Y4|apply Y6)|((with_reducible apply e_end);(simp;exact Rz))|((with_reducible apply O1);rfl;(simp (disch:=omega) [hil,hil2];exact Rz);exact Rz;(focus (first|(simp;done)|omega|(simp;omega))))|((with_reducible apply W3);(simp (disch:=omega) [hil,hil2];exact Rz)))
                  exact q_stay (.inr rfl) (by simp; exact Rz) rfl
end Go.Proofs
