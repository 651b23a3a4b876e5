/- Several texts as one. -/
import Derived.Test.YtbfihdpmphlckaaPB
import Derived.Test.YtbfihdpmphlckaaRA
import Derived.Test.YtbfihdpmphlckaaWA
import Derived.Test.YtbfihdpmphlckaaR5
/- What a safe plan is,by needs; and the first one with the fewest sprayings. -/
namespace Go.Proofs
open Go.Abs
attribute [local simp] AOp.den AOpd.ev lk cellsOf rd_new rd_new0 rd_zero rd_succ wr_new wr_new0 wr_zero wr_succ splice fillA binA scal sliceCells List.length_append argsT AV.sc scL AObj.sc resV getAll AR.get AOp.slots opdSlots opdsSlots partSlots eqAt at_new0 at_new set_new0 set_new wrap64
set_option linter.unusedSimpArgs false
set_option linter.unusedVariables false
open Go.Hall
theorem la_le {x y n : Int} (hy : 1≤y) (hn : 0≤n) : laF x y≤n↔x≤y * n:=by
  simp only [laF]
  by_cases h0 : 0≤x+y - 1
  · rw [Int.tdiv_eq_ediv_of_nonneg h0]
    constructor
    · intro h
      have h1:=Int.lt_ediv_add_one_mul_self (x+y - 1) (show 0 < y by omega)
      have h2 : (x+y - 1) / y+1≤n+1:=by omega
      have h3:=Int.mul_le_mul_of_nonneg_right h2 (show 0≤y by omega)
      rw [Int.add_mul n,Int.one_mul,Int.mul_comm n] at h3
      omega
    · intro h
      have h1 : x+y - 1 < (n+1) * y:=by rw [Int.add_mul,Int.one_mul,Int.mul_comm n]; omega
      have:=Int.ediv_lt_of_lt_mul (show 0 < y by omega) h1
      omega
  · have h1:=Int.tdiv_nonneg (a:=-(x+y - 1)) (b:=y) (by omega) (by omega)
    rw [Int.neg_tdiv] at h1
    have h2:=Int.mul_nonneg (show 0≤y by omega) hn
    constructor <;> intro _ <;> omega
theorem ct_mono {p : Nat→Bool} {d : Nat} : ∀ {e : Nat},d≤e→ct p d≤ct p e
  | 0,h=>by
    obtain rfl : d=0:=by omega
    exact Int.le_refl _
  | e+1,h=>by
    by_cases hd : d=e+1
    · subst hd; exact Int.le_refl _
    · have:=ct_mono (p:=p) (d:=d) (e:=e) (by omega)
      have e1 : ct p (e+1)=ct p e+if p e=true then 1 else 0:=rfl
      rw [e1]; split <;> omega
theorem bef_ic {c : Cv} {n : Nat} (hc : c.ok n) {P : Nat→Nat→Bool} {s : Nat} : ∀ {D : Nat},(∀ d,d < D→tooF c (endT true c) P d s=false)→befF c (endT true c) P s D=icF c s D+c.y1 * ct (fun h=>P h s) D
  | 0,_=>by simp [befF,icF,ct,sm,endT]
  | D+1,h=>by
    have ih:=bef_ic hc (P:=P) (s:=s) (D:=D) fun d hd=>h d (by omega)
    have h1:=h D (by omega)
    have h2:=asks_bd hc D
    simp only [tooF,decide_eq_false_iff_not] at h1
    have e1 : ct (fun h=>P h s) (D+1)=ct (fun h=>P h s) D+if P D s=true then 1 else 0:=rfl
    have e2 : icF c s (D+1)=icF c s D - lossF c (endT true c) s D:=rfl
    have e3 : befF c (endT true c) P s (D+1)=max 0 (befF c (endT true c) P s D - lossF c (endT true c) s D)+if P D s then (endT true c).layer else 0:=rfl
    have e4 : (endT true c).layer=c.y1:=rfl
    rw [e3,e2,e1,e4,Int.mul_add]
    cases P D s <;> simp <;> omega
theorem safe_iff {c : Cv} {n : Nat} (hc : c.ok n) {P : Nat→Nat→Bool} {s M : Nat} : (∀ d,d < M→tooF c (endT true c) P d s=false)↔∀ d,d < M→ndR c s d≤ct (fun h=>P h s) d:=by
  have hy : 1≤c.y1:=hc.rul.2.1.2.1
  constructor
  · intro h d hd
    induction d with
    | zero =>
      have h1:=of_decide_eq_false (h 0 hd)
      simp only [befF] at h1
      have : (endT true c).thick s=icF c s 0:=rfl
      rw [this] at h1
      have e2 : icF c s (0+1)=icF c s 0 - lossF c (endT true c) s 0:=rfl
      have:=(la_le (x:=asks c 0 - icF c s (0+1)) (y:=c.y1) (n:=0) hy (by omega)).2 (by omega)
      simp only [ndR,ndF]
      have : ct (fun h=>P h s) 0=0:=rfl
      omega
    | succ d ih =>
      have h0:=ih (by omega)
      have h1:=h (d+1) hd
      have h2:=bef_ic hc (P:=P) (s:=s) (D:=d+1) fun k hk=>h k (by omega)
      simp only [tooF,decide_eq_false_iff_not,h2] at h1
      have e2 : icF c s (d+1+1)=icF c s (d+1) - lossF c (endT true c) s (d+1):=rfl
      have h3:=(la_le (x:=asks c (d+1) - icF c s (d+1+1)) (y:=c.y1) (n:=ct (fun h=>P h s) (d+1)) hy (ct_nonneg _ _)).2 (by omega)
      have h4:=ct_mono (p:=fun h=>P h s) (show d≤d+1 by omega)
      have e5 : ndR c s (d+1)=max (ndR c s d) (laF (asks c (d+1) - icF c s (d+1+1)) c.y1):=rfl
      omega
  · intro h d hd
    induction d using Nat.strongRecOn with
    | ind d ih =>
      have h2:=bef_ic hc (P:=P) (s:=s) (D:=d) fun k hk=>ih k hk (by omega)
      have h1:=h d hd
      simp only [tooF,decide_eq_false_iff_not,h2]
      have e2 : icF c s (d+1)=icF c s d - lossF c (endT true c) s d:=rfl
      have e5 : ndR c s d=max (ndF c s d) (laF (asks c d - icF c s (d+1)) c.y1):=rfl
      have h3:=(la_le (x:=asks c d - icF c s (d+1)) (y:=c.y1) (n:=ct (fun h=>P h s) d) hy (ct_nonneg _ _)).1 (by omega)
      omega
theorem safe2_iff {c : Cv} {n : Nat} (hc : c.ok n) {L : Nat→List Int} : safeF c L=2↔∀ s,s < c.bs.length→∀ d,d < c.hs.length→ndR c s d≤ct (fun h=>inP L h s) d:=by
  have hw : thP c (endT true c) (inP L) c.hs.length=[]↔∀ s,s < c.bs.length→∀ d,d < c.hs.length→ndR c s d≤ct (fun h=>inP L h s) d:=by
    rw [thP_nil]
    constructor
    · intro h s hs
      exact (safe_iff hc (P:=inP L)).1 fun d hd=>h d s hd hs
    · intro h d s hd hs
      exact (safe_iff hc (P:=inP L) (M:=c.hs.length)).2 (h s hs) d hd
  rw [← hw]
  have hb : thP c (endT true c) (inP L) c.hs.length=[]→thP c (endT false c) (inP L) c.hs.length=[]:=by
    rw [thP_nil,thP_nil]
    intro h d s hd hs
    cases ht : tooF c (endT false c) (inP L) d s with
    | false=>rfl
    | true =>
      have:=too_mono hc (worst_le (endT_ok hc false)) (inP L) hs hd ht
      rw [h d s hd hs] at this; cases this
  simp only [safeF]
  by_cases h1 : thP c (endT true c) (inP L) c.hs.length=[]
  · simp [h1,hb h1]
  · simp [h1]; split <;> omega
structure GoodP (c : Cv) (Q : Nat→Nat→Bool) : Prop where
  rows : ∀ h,h < c.hs.length→ct (Q h) c.bs.length≤handsF c h
  needs : ∀ s,s < c.bs.length→∀ d,d < c.hs.length→ndR c s d≤ct (fun h=>Q h s) d
  tot : ∀ s,s < c.bs.length→ct (fun h=>Q h s) c.hs.length=ndR c s (c.hs.length - 1)
theorem feas0_iff {c : Cv} (hb : c.bs.length≤12) (h8 : c.hs.length≤8) : feasR c (fun _ _=>none)↔∃ Q : Nat→Nat→Bool,(∀ h,h < c.hs.length→ct (Q h) c.bs.length≤handsF c h)∧∀ s,s < c.bs.length→∀ d,d < c.hs.length→ndR c s d≤ct (fun h=>Q h s) d:=by
  have h0 : ∀ (p : Nat),ct (fun _=>false) p=0:=fun p=>(sm_congr fun i _=>by simp).trans (sm_zero p)
  constructor
  · rintro ⟨P,h1,h2,h3⟩
    refine ⟨P,fun h hh=>?_,fun s hs d hd=>?_⟩
    · have a:=h2 h (by omega)
      simp only [idF,if_pos hh] at a
      have e : ct (stT (fun _ _=>none) h) c.bs.length=0:=h0 _
      rw [e] at a
      exact Int.le_trans (ct_mono (p:=P h) hb) (by omega)
    · have a:=h3 s (by omega) d (by omega)
      simp only [ndX,if_pos (And.intro hs hd)] at a
      have e : ct (fun h=>stT (fun _ _=>none) h s) d=0:=h0 _
      omega
  · rintro ⟨Q,h1,h2⟩
    refine ⟨fun h s=>decide (s < c.bs.length) && (decide (h < c.hs.length) && Q h s),fun _ _ _=>rfl,fun h hh=>?_,fun s hs d hd=>?_⟩
    · show ct (fun s=>decide (s < c.bs.length) && (decide (h < c.hs.length) && Q h s)) 12≤_
      rw [ct_below _ hb]
      simp only [idF]
      have e : ct (stT (fun _ _=>none) h) c.bs.length=0:=h0 _
      split
      · rename_i x
        have:=h1 h x
        simp only [x,decide_true,Bool.true_and]
        show ct (Q h) c.bs.length≤_
        omega
      · rename_i x
        simp only [x,decide_false,Bool.false_and]
        rw [h0]; omega
    · simp only [ndX]
      split
      · rename_i x
        have e : ct (fun h=>stT (fun _ _=>none) h s) d=0:=h0 _
        have a:=h2 s x.1 d x.2
        have b : ct (fun h=>Q h s) d≤ct (fun h=>decide (s < c.bs.length) && (decide (h < c.hs.length) && Q h s)) d:=ct_le fun i hi hq=>by simp [x.1,hq]; omega
        omega
      · exact ct_nonneg _ _
open Go.Hall
structure PS (c : Cv) (S : Nat→Nat→Option Bool) (h s : Nat) : Prop where
  some : ∀ a e,(S a e).isSome=true↔(a < h∨(a=h∧e < s))∧e < c.bs.length
  feas : feasR c S
  hnd : ∀ a,a < 8→0≤idF c S a
  tot : ∀ e,e < c.bs.length→ct (fun a=>stT S a e) c.hs.length≤ndR c e (c.hs.length - 1)
  fst : ∀ Q,GoodP c Q→∀ a e,(a < h∨(a=h∧e < s))→e < c.bs.length→(∀ a' e',e' < c.bs.length→(a' < a∨(a'=a∧e' < e))→Q a' e'=stT S a' e')→Q a e=true→stT S a e=true
theorem PS.start {c : Cv} {n : Nat} (hc : c.ok n) (hf : feasR c (fun _ _=>none)) : PS c (fun _ _=>none) 0 0:=by
  have h0 : ∀ (p : Nat),ct (fun _=>false) p=0:=fun p=>(sm_congr fun i _=>by simp).trans (sm_zero p)
  refine ⟨fun a e=>by simp,hf,fun a ha=>?_,fun e he=>?_,fun Q hQ a e h=>by omega⟩
  · simp only [idF]
    have e : ct (stT (fun _ _=>none) a) c.bs.length=0:=h0 _
    split
    · rename_i x
      have:=hc.hok a x
      rw [← Cv.h_eq x] at this
      have h2:=this.2.2.1
      simp only [handsF]
      split <;> omega
    · omega
  · have e2 : ct (fun a=>stT (fun _ _=>none) a e) c.hs.length=0:=h0 _
    have h8:=hc.hours
    have:=(ndF_bd hc he (h:=c.hs.length - 1+1) (by omega)).1
    simp only [ndR]; omega
theorem PS.row {c : Cv} {S : Nat→Nat→Option Bool} {h : Nat} (hp : PS c S h c.bs.length) : PS c S (h+1) 0 :=
  ⟨fun a e=>by rw [hp.some]; omega,hp.feas,hp.hnd,hp.tot,fun Q hQ a e h1 h2 h3 h4=>hp.fst Q hQ a e (by omega) h2 h3 h4⟩
theorem PS.none {c : Cv} {S : Nat→Nat→Option Bool} {h s : Nat} (hp : PS c S h s) {a e : Nat} (he : ¬ ((a < h∨(a=h∧e < s))∧e < c.bs.length)) : S a e=.none:=by
  cases hs : S a e with
  | none=>rfl
  | some b=>exact absurd ((hp.some a e).1 (by rw [hs]; rfl)) he
theorem stT_some {S : Nat→Nat→Option Bool} {a e : Nat} (h : stT S a e=true) : (S a e).isSome=true:=by
  simp only [stT] at h
  cases hs : S a e with
  | none=>rw [hs] at h; cases h
  | some b=>rfl
theorem PS.settle {c : Cv} {n : Nat} (hc : c.ok n) (hb : c.bs.length≤12) {S : Nat→Nat→Option Bool} {h s : Nat} (hp : PS c S h s) (hh : h < c.hs.length) (hs : s < c.bs.length) {r : Bool}
    (hr : r=true↔0 < idF c S h∧ct (fun a=>stT S a s) (c.hs.length - 1) < ndR c s (c.hs.length - 1)∧feasR c (setS S h s true)) : PS c (setS S h s r) h (s+1):=by
  have h8:=hc.hours
  have hn : ∀ a,h≤a→S a s=.none:=fun a ha=>hp.none (by omega)
  have h0:=hn h (Nat.le_refl _)
  have hm : ∀ d,d < c.hs.length→ndR c s d≤ndR c s (c.hs.length - 1):=by
    have : ∀ d e,d≤e→ndR c s d≤ndR c s e:=fun d e hde=>by
      induction e with
      | zero =>
        obtain rfl : d=0:=by omega
        exact Int.le_refl _
      | succ e ih =>
        by_cases hd : d=e+1
        · subst hd; exact Int.le_refl _
        · have a1:=ih (by omega)
          have a2:=ndF_mono c s (e+1)
          simp only [ndR] at a1 ⊢
          omega
    exact fun d hd=>this d _ (by omega)
  have old : ∀ {a e},¬ (a=h∧e=s)→stT (setS S h s r) a e=stT S a e:=fun {a e} hx=>by rw [stT_put]; dsimp only; rw [if_neg hx]
  refine ⟨fun a e=>?_,feas_settle hh hs hb h8.2 hn hm hp.feas hr,fun a ha=>?_,fun e he=>?_,fun Q hQ a e h1 h2 h3 h4=>?_⟩
  · simp only [setS]
    split
    · rename_i x
      simp only [Option.isSome_some,true_iff]
      omega
    · rename_i x
      rw [hp.some]
      omega
  · rw [idF_put hh hs h0]
    have:=hp.hnd a ha
    split
    · rename_i x
      have:=(hr.1 x.2).1
      rw [x.1]; omega
    · omega
  · by_cases hes : e=s
    · subst hes
      cases r with
      | false=>rw [stT_off h0]; exact hp.tot e he
      | true =>
        have a1:=(hr.1 rfl).2.1
        rw [stT_col h0]
        have e1 : ct (fun a=>stT S a e) c.hs.length=ct (fun a=>stT S a e) (c.hs.length - 1)+if stT S (c.hs.length - 1) e=true then 1 else 0:=by
          obtain ⟨m,hm2⟩ : ∃ m,c.hs.length=m+1:=⟨c.hs.length - 1,by omega⟩
          rw [hm2]; rfl
        have e2 : stT S (c.hs.length - 1) e=false:=by simp [stT,hn _ (show h≤c.hs.length - 1 by omega)]
        rw [e2] at e1
        rw [if_pos hh]
        simp at e1
        omega
    · rw [stT_else r hes]; exact hp.tot e he
  · by_cases hx : a=h∧e=s
    · obtain ⟨rfl,rfl⟩:=hx
      cases r with
      | true=>rw [stT_put]; simp
      | false =>
        exfalso
        have hQS : ∀ a' e',e' < c.bs.length→(a' < a∨(a'=a∧e' < e))→Q a' e'=stT S a' e':=fun a' e' y1 y2=>by
          rw [h3 a' e' y1 y2,old (by omega)]
        have hSQ : ∀ a' e',stT S a' e'=true→Q a' e'=true:=fun a' e' y=>by
          have z:=(hp.some a' e').1 (stT_some y)
          rw [hQS a' e' z.2 z.1]; exact y
        by_cases hl : ct (fun a=>stT S a e) (c.hs.length - 1) < ndR c e (c.hs.length - 1)
        · have:=feas_first (P:=fun a' e'=>decide (e' < c.bs.length) && (decide (a' < c.hs.length) && (Q a' e' && (S a' e').isNone))) hh hs hb h8.2 h0 hr rfl hl (fun a' e' y=>by simp at y; simp [y]) (fun a' ha'=>?_) (fun e' he' d hd=>?_)
          · simp [hh,hs,h4,h0] at this
          · show ct (fun e'=>decide (e' < c.bs.length) && (decide (a' < c.hs.length) && (Q a' e' && (S a' e').isNone))) 12≤_
            rw [ct_below _ hb]
            simp only [idF]
            split
            · rename_i x
              have q1:=hQ.rows a' x
              have q2 : ct (fun e'=>decide (a' < c.hs.length) && (Q a' e' && (S a' e').isNone)) c.bs.length+ct (stT S a') c.bs.length≤ct (Q a') c.bs.length:=ct_split fun i _=>by
                refine ⟨fun y=>?_,hSQ a' i,fun y=>?_⟩
                · simp at y; exact y.2.1
                · simp only [Bool.and_eq_true] at y
                  have y2:=stT_some y.2
                  cases hsi : S a' i with
                  | none=>rw [hsi] at y2; cases y2
                  | some b=>rw [hsi] at y; exact absurd y.1.2.2 (by simp)
              omega
            · rename_i x
              refine Int.le_of_eq ((sm_congr fun i _=>?_).trans (sm_zero _))
              simp [x]
          · simp only [ndX]
            split
            · rename_i x
              have q1:=hQ.needs e' x.1 d x.2
              have q2 : ct (fun a'=>Q a' e') d≤ct (fun a'=>stT S a' e') d+ct (fun a'=>decide (e' < c.bs.length) && (decide (a' < c.hs.length) && (Q a' e' && (S a' e').isNone))) d:=ct_cover fun i hi y=>by
                cases hsi : S i e' with
                | none=>right; simp [x.1,y,hsi]; omega
                | some b =>
                  left
                  have z:=(hp.some i e').1 (by rw [hsi]; rfl)
                  rw [← hQS i e' z.2 z.1]; exact y
              omega
            · exact ct_nonneg _ _
        · have q1:=hQ.tot e hs
          have q2:=ct_less (p:=fun a'=>Q a' e) hh h4
          have q3 : ct (fun a'=>stT S a' e) c.hs.length≤ct (fun i=>Q i e && !decide (i=a)) c.hs.length:=ct_le fun i _ y=>by
            have z:=hSQ i e y
            have z2 : i ≠ a:=fun w=>by rw [w] at y; simp [stT,h0] at y
            simp [z,z2]
          have q4:=ct_mono (p:=fun a'=>stT S a' e) (show c.hs.length - 1≤c.hs.length by omega)
          omega
    · rw [old hx]
      exact hp.fst Q hQ a e (by omega) h2 (fun a' e' y1 y2=>by rw [h3 a' e' y1 y2,old (by omega)]) h4
theorem PS.good {c : Cv} {n : Nat} (hc : c.ok n) (hb : c.bs.length≤12) {S : Nat→Nat→Option Bool} (hp : PS c S c.hs.length 0) : GoodP c (stT S):=by
  have h8:=hc.hours
  have hne : ∀ s,s < c.bs.length→∀ d,d < c.hs.length→ndR c s d≤ct (fun h=>stT S h s) d:=fun s hs d hd=>by
    obtain ⟨P,h1,_,h3⟩:=hp.feas
    have a:=h3 s (by omega) d (by omega)
    simp only [ndX,if_pos (And.intro hs hd)] at a
    have e : ct (fun h=>P h s) d=0:=(sm_congr fun i hi=>by
      refine if_neg fun hP=>?_
      have : (S i s).isNone=true:=h1 i s hP
      have k:=(hp.some i s).2 ⟨by omega,hs⟩
      cases hsi : S i s with
      | none=>rw [hsi] at k; cases k
      | some b=>rw [hsi] at this; cases this).trans (sm_zero d)
    omega
  refine ⟨fun h hh=>?_,hne,fun s hs=>?_⟩
  · have:=hp.hnd h (by omega)
    simp only [idF,if_pos hh] at this
    omega
  · have a1:=hp.tot s hs
    have a2:=hne s hs (c.hs.length - 1) (by omega)
    have a3:=ct_mono (p:=fun h=>stT S h s) (show c.hs.length - 1≤c.hs.length by omega)
    omega
def flL (p : Nat→Bool) (i : Nat) : List Int:=((List.range i).filter p).map fun (s : Nat)=>(s : Int)
theorem flL_succ (p : Nat→Bool) (i : Nat) : flL p (i+1)=if p i=true then flL p i++[(i : Int)] else flL p i:=by
  simp only [flL,List.range_succ,List.filter_append,List.map_append]
  by_cases h : p i=true <;> simp [h]
theorem flL_mem {p : Nat→Bool} {i : Nat} {x : Int} : x ∈ flL p i↔∃ s : Nat,s < i∧p s=true∧x=s:=by
  simp only [flL,List.mem_map,List.mem_filter,List.mem_range]
  constructor
  · rintro ⟨s,⟨h1,h2⟩,rfl⟩; exact ⟨s,h1,h2,rfl⟩
  · rintro ⟨s,h1,h2,rfl⟩; exact ⟨s,⟨h1,h2⟩,rfl⟩
theorem flL_len (p : Nat→Bool) : ∀ i,((flL p i).length : Int)=ct p i
  | 0=>rfl
  | i+1=>by
    have ih:=flL_len p i
    have e : ct p (i+1)=ct p i+if p i=true then 1 else 0:=rfl
    rw [flL_succ,e,← ih]
    split <;> simp
theorem flL_le (p : Nat→Bool) (i : Nat) : (flL p i).length≤i:=by
  have:=flL_len p i
  have:=ct_top p i
  omega
theorem flL_ok (p : Nat→Bool) {n : Nat} : ∀ {i : Nat},i≤n→okL n (flL p i)
  | 0,_=>fun k hk=>by simp [flL] at hk
  | i+1,h=>by
    have ih:=flL_ok p (n:=n) (i:=i) (by omega)
    rw [flL_succ]
    split
    · refine okL_snoc ih (by omega) (by omega) fun y hy=>?_
      obtain ⟨s,h1,_,rfl⟩:=flL_mem.1 hy
      omega
    · exact ih
theorem flL_congr {p q : Nat→Bool} {n : Nat} (h : ∀ i,i < n→p i=q i) : flL p n=flL q n:=by
  simp only [flL]
  congr 1
  apply List.filter_congr
  intro x hx
  exact h x (List.mem_range.1 hx)
theorem inP_fl {p : Nat→Nat→Bool} {n h s : Nat} (hs : s < n) : inP (fun h=>flL (p h) n) h s=p h s:=by
  simp only [inP,flL_mem]
  cases hp : p h s with
  | true=>simp; exact ⟨s,hs,hp,rfl⟩
  | false =>
    simp
    intro x _ hx e
    obtain rfl : s=x:=by omega
    rw [hp] at hx; cases hx
theorem GoodP.congr {c : Cv} {P Q : Nat→Nat→Bool} (h : GoodP c P) (e : ∀ a s,s < c.bs.length→Q a s=P a s) : GoodP c Q :=
  ⟨fun a ha=>by rw [ct_congr (q:=P a) fun i hi=>e a i hi]; exact h.rows a ha,fun s hs d hd=>by rw [ct_congr (q:=fun a=>P a s) fun i _=>e i s hs]; exact h.needs s hs d hd,fun s hs=>by rw [ct_congr (q:=fun a=>P a s) fun i _=>e i s hs]; exact h.tot s hs⟩
theorem GoodP.okPl {c : Cv} {P : Nat→Nat→Bool} (h : GoodP c P) : okPl c (fun a=>flL (P a) c.bs.length):=fun a ha=>⟨by rw [flL_len]; exact h.rows a ha,flL_ok _ (Nat.le_refl _)⟩
structure BestP (c : Cv) (L : Nat→List Int) : Prop where
  ok : okPl c L
  good : GoodP c (inP L)
  fst : ∀ Q,GoodP c Q→∀ a e,a < c.hs.length→e < c.bs.length→(∀ a' e',e' < c.bs.length→(a' < a∨(a'=a∧e' < e))→Q a' e'=inP L a' e')→Q a e=true→inP L a e=true
theorem PS.best {c : Cv} {n : Nat} (hc : c.ok n) (hb : c.bs.length≤12) {S : Nat→Nat→Option Bool} (hp : PS c S c.hs.length 0) : BestP c (fun a=>flL (stT S a) c.bs.length):=by
  have hg:=hp.good hc hb
  have e : ∀ a s,s < c.bs.length→inP (fun a=>flL (stT S a) c.bs.length) a s=stT S a s:=fun a s hs=>inP_fl hs
  refine ⟨hg.okPl,hg.congr e,fun Q hQ a s ha hs h1 h2=>?_⟩
  rw [e a s hs]
  exact hp.fst Q hQ a s (.inl ha) hs (fun a' e' y1 y2=>by rw [h1 a' e' y1 y2,e a' e' y1]) h2
open Go.Hall
theorem mS_none : mS (fun _ _=>none)=fun _=>none:=by funext k; simp [mS]
theorem id0 {c : Cv} {n : Nat} (hc : c.ok n) (a : Nat) : 0≤idF c (fun _ _=>none) a:=by
  have h0 : ∀ (p : Nat),ct (fun _=>false) p=0:=fun p=>(sm_congr fun i _=>by simp).trans (sm_zero p)
  simp only [idF]
  have e : ct (stT (fun _ _=>none) a) c.bs.length=0:=h0 _
  split
  · rename_i x
    have:=hc.hok a x
    rw [← Cv.h_eq x] at this
    have h2:=this.2.2.1
    simp only [handsF]
    split <;> omega
  · omega
theorem Rows.chg {H H' : Heap} {box : AObj} {n : Nat} {L : Nat→List Int} {vs : Nat→AV} {G : Heap} (h : Rows H box n L vs G) (hl : H'.length=H.length) : Rows H' box n L vs G:=by
  refine ⟨fun k hk=>(h.at_ k hk).keep fun i hi=>?_,fun k hk i hi=>by rw [hl]; exact h.lo k hk i hi,h.ne⟩
  have:=h.lo k hk i hi
  rw [List.getElem?_append_right (by omega),List.getElem?_append_right (by omega),hl]
structure PB (H : Heap) (c : Cv) (p : Plc) (nid sid : Nat) (bx : List AV) (B : AObj→Heap) : Prop where
  pre : ∀ o,∃ X,B o=H++X
  len : ∀ o,(B o).length=sid+1
  at_ : ∀ o,(B o)[sid]?=some o
  set : ∀ o o',(B o).set sid o'=B o'
  box : ∀ o,rd (B o) H.length 0 10=some bx
  cv : ∀ o,CvAt (B o) c p
  go : ∀ o,GoAt (B o) (.slice nid 0 c.bs.length 1 false) c.hs.length (ndR c) c.bs.length
  sge : H.length < sid
set_option maxHeartbeats 4000000 in
theorem c_PlanV (H : Heap) (l : List Str) (c : Cv) (p : Plc) (hp : CvAt H c p) (ht : TrAt H l p) (hc : c.ok l.length) (hv : validL l) :
    ACalls Try.prog F.qae [.agg (c.av p)] H (fun v h'=>(∃ (pl : AV) (G : Heap) (L : Nat→List Int),v=.tuple [pl,.int .i64 0]∧h'=H++G∧PlAt h' pl c.hs.length L∧BestP c L)∨(StuckR c (fun _ _=>none)∧v=.tuple [.nilslice,.int .i64 8]∧h'=H)):=by
  have hp1:=hp.t
  have hp2:=rd_lt hp.b
  have hp3:=rd_lt hp.h
  have h12:=hv.1
  have hlen:=hc.len
  have h8:=hc.hours
  have k0:=fun G=>c_iCheck (H++G) l c p (hp.app G) (ht.app G) (by omega) (by omega) (by omega)
  have kn:=fun G=>c_needs (H++G) l c p (hp.app G) hc hv
  have hgo:=fun G=>goAt_of (H++G) c.hs.length (ndR c) c.bs.length []
  simp only [Cv.av] at k0 kn ⊢
  refine acalls_of ok_qae rfl fun hcl=>?_
  unfold ac_qae zo
  simp only [argsT,Nat.zero_add,Nat.reduceAdd]
  repeat (first|(with_reducible first|apply X1|apply X2|apply X8)|((with_reducible apply e_end);(simp;exact Rz))|((with_reducible apply O1);rfl;(simp (disch:=omega);exact Rz);exact Rz;(focus (first|(simp;done)|omega|(simp;omega)))))
  (with_reducible apply e_call); (simp; exact Rz); exact k0 _
  rintro _ _ ⟨rfl,e,rfl,he⟩
  obtain rfl : e=0:=by
    rcases he with h | h | h
    · exact h.2.2
    · exact absurd hv h.1
    · exact absurd hc h.2.1
  repeat (first|(with_reducible first|apply X1|apply X2|apply X5|apply X8|apply Y9)|((with_reducible apply e_end);(simp;exact Rz))|((first|((with_reducible apply O1);rfl)|((with_reducible apply P1);rfl)|((with_reducible apply P2);rfl));(simp (disch:=omega);exact Rz);exact Rz;(focus (first|(simp;done)|omega|(simp;omega))))|((with_reducible apply W3);(simp (disch:=omega);exact Rz)))
  (with_reducible apply d_call_); (simp; exact Rz); exact kn _; (focus (first | (simp; done) | (simp; omega)))
  repeat (first|(with_reducible first|apply X1|apply X2|apply X8)|((with_reducible apply d_end);(simp;exact Rz))|((first|((with_reducible apply O1);rfl)|((with_reducible apply P1);rfl)|((with_reducible apply P3);rfl)|((with_reducible apply P4);rfl));(simp (disch:=omega);exact Rz);exact Rz;(focus (first|(simp;done)|omega|(simp;omega)))))
  have hgo:=hgo [.cells [.slice p.tid p.toff p.tn 9 p.tex,.slice p.bid p.boff c.bs.length 3 p.bex,.slice p.hid p.hoff c.hs.length 5 p.hex,.int .i64 c.w1,.int .i64 c.w2,.int .i64 c.y1,.int .i64 c.y2,.int .i64 c.rate,.int .i64 c.lim,.int .i64 c.base] true]
  obtain ⟨B,hB⟩ : ∃ B : AObj→Heap,∀ o,B o=H++(.cells [.slice p.tid p.toff p.tn 9 p.tex,.slice p.bid p.boff c.bs.length 3 p.bex,.slice p.hid p.hoff c.hs.length 5 p.hex,.int .i64 c.w1,.int .i64 c.w2,.int .i64 c.y1,.int .i64 c.y2,.int .i64 c.rate,.int .i64 c.lim,.int .i64 c.base] true :: (goO (H.length+1) c.hs.length (ndR c) c.bs.length []++[o])):=⟨_,fun _=>rfl⟩
  obtain ⟨nid,hnid⟩ : ∃ n,n=H.length+1:=⟨_,rfl⟩
  obtain ⟨sid,hsid⟩ : ∃ n,n=H.length+((goO (H.length+1) c.hs.length (ndR c) c.bs.length []).length+1):=⟨_,rfl⟩
  have hPB : PB H c p nid sid [AV.slice p.tid p.toff p.tn 9 p.tex,.slice p.bid p.boff c.bs.length 3 p.bex,.slice p.hid p.hoff c.hs.length 5 p.hex,.int .i64 c.w1,.int .i64 c.w2,.int .i64 c.y1,.int .i64 c.y2,.int .i64 c.rate,.int .i64 c.lim,.int .i64 c.base] B:=by
    have hBl : ∀ o,(B o).length=sid+1:=fun o=>by rw [hB,hsid]; simp; omega
    have hat : ∀ o,B o=(H++(.cells [.slice p.tid p.toff p.tn 9 p.tex,.slice p.bid p.boff c.bs.length 3 p.bex,.slice p.hid p.hoff c.hs.length 5 p.hex,.int .i64 c.w1,.int .i64 c.w2,.int .i64 c.y1,.int .i64 c.y2,.int .i64 c.rate,.int .i64 c.lim,.int .i64 c.base] true :: goO (H.length+1) c.hs.length (ndR c) c.bs.length []))++[o]:=fun o=>by rw [hB]; simp
    have hll : (H++(.cells [.slice p.tid p.toff p.tn 9 p.tex,.slice p.bid p.boff c.bs.length 3 p.bex,.slice p.hid p.hoff c.hs.length 5 p.hex,.int .i64 c.w1,.int .i64 c.w2,.int .i64 c.y1,.int .i64 c.y2,.int .i64 c.rate,.int .i64 c.lim,.int .i64 c.base] true :: goO (H.length+1) c.hs.length (ndR c) c.bs.length [])).length=sid:=by rw [hsid]; simp
    refine ⟨fun o=>⟨_,hB o⟩,hBl,fun o=>?_,fun o o'=>?_,fun o=>?_,fun o=>?_,fun o=>?_,by omega⟩
    · rw [hat,← hll]; simp
    · rw [hat,hat,← hll]; simp
    · rw [hB]; simp
    · rw [hB]; exact hp.app _
    · have:=hgo.app [o]
      rw [hB,hnid]; simpa using this
  have e0 : ∀ Y,H++.cells [.slice p.tid p.toff p.tn 9 p.tex,.slice p.bid p.boff c.bs.length 3 p.bex,.slice p.hid p.hoff c.hs.length 5 p.hex,.int .i64 c.w1,.int .i64 c.w2,.int .i64 c.y1,.int .i64 c.y2,.int .i64 c.rate,.int .i64 c.lim,.int .i64 c.base] true :: (goO (H.length+1) c.hs.length (ndR c) c.bs.length []++.other (OObj.map [] [] 0) :: Y)=B (.other (OObj.map [] [] 0))++Y:=fun Y=>by rw [hB]; simp
  have hm0 : PMap (.other (OObj.map [] [] 0)) (mS fun _ _=>none):=by rw [mS_none]; exact PMap.nil
  rw [e0,← hsid,← hnid]
  have hsl : H.length < sid:=hPB.sge
  have hnl : nid < sid:=by rw [hnid,hsid]; simp [goO]
  generalize AObj.other (OObj.map [] [] 0)=o0 at hm0 ⊢
  have kf:=fun G=>c_finishes (B o0++G) c p ((hPB.cv o0).app G) _ hc (by omega) nid ((hPB.go o0).app G) sid (fun _ _=>none) ⟨o0,at_old G (hPB.at_ o0),hm0⟩ fun a _=>id0 hc a
  have ks:=fun o S G (hm : PMap o (mS S))=>c_settle (B o++G) c p ((hPB.cv o).app G) _ hc (by omega) nid ((hPB.go o).app G) sid S ⟨o,at_old G (hPB.at_ o),hm⟩
  simp only [rosV,Cv.av,List.cons_append,List.nil_append] at kf ks
  have hBl:=fun o=>hPB.len o
  have hbx:=fun (o : AObj) (Y : Heap)=>(rd_old Y (show H.length < (B o).length by rw [hBl]; omega) 0 10).trans (hPB.box o)
  have hb1:=fun o Y=>rd_sub' (hbx o Y) 1 1 (by omega)
  have hb2:=fun o Y=>rd_sub' (hbx o Y) 2 1 (by omega)
  simp only [List.drop_succ_cons,List.drop_zero,List.take_succ_cons,List.take_zero,Nat.zero_add] at hb1 hb2
  have e1 : H.length+((goO nid c.hs.length (ndR c) c.bs.length []).length+1+1)=sid+1:=by rw [hsid,hnid]; omega
  rw [e1]
  (with_reducible apply e_call); (simp; exact Rz); exact kf _
  rintro _ _ ⟨r,rfl,hr,hst,rfl⟩
  obtain ⟨X0,hX0⟩:=hPB.pre o0
  cases r with
  | false =>
    repeat (first|(with_reducible first|apply X1|apply X2|apply X3|apply X8|apply X9)|((with_reducible apply e_end);(simp;exact Rz))|((with_reducible apply O1);rfl;(simp (disch:=omega);exact Rz);exact Rz;(focus (first|(simp;done)|omega|(simp;omega))))|((with_reducible apply Z9);(simp (disch:=omega);exact Rz)))
    rw [hX0,List.append_assoc]
    exact q_drop (.inr rfl) (by simp; exact Rz) (by simp [AV.sc,scL]) (.inr ⟨hst rfl,rfl,rfl⟩)
  | true =>
    have hP0:=PS.start hc (hr.1 rfl)
    have hbr : ∀ o Y,rd (B o++(.cells [AV.slice p.tid p.toff p.tn 9 p.tex,.slice p.bid p.boff c.bs.length 3 p.bex,.slice p.hid p.hoff c.hs.length 5 p.hex,.int .i64 c.w1,.int .i64 c.w2,.int .i64 c.y1,.int .i64 c.y2,.int .i64 c.rate,.int .i64 c.lim,.int .i64 c.base,.slice nid 0 c.bs.length 1 false,.map sid] true) :: Y) (sid+1) 0 12=some [AV.slice p.tid p.toff p.tn 9 p.tex,.slice p.bid p.boff c.bs.length 3 p.bex,.slice p.hid p.hoff c.hs.length 5 p.hex,.int .i64 c.w1,.int .i64 c.w2,.int .i64 c.y1,.int .i64 c.y2,.int .i64 c.rate,.int .i64 c.lim,.int .i64 c.base,.slice nid 0 c.bs.length 1 false,.map sid]:=fun o Y=>by rw [← hBl o]; simp
    obtain ⟨rx,hrx⟩ : ∃ rx,rx=(.cells [AV.slice p.tid p.toff p.tn 9 p.tex,.slice p.bid p.boff c.bs.length 3 p.bex,.slice p.hid p.hoff c.hs.length 5 p.hex,.int .i64 c.w1,.int .i64 c.w2,.int .i64 c.y1,.int .i64 c.y2,.int .i64 c.rate,.int .i64 c.lim,.int .i64 c.base,.slice nid 0 c.bs.length 1 false,.map sid] true : AObj):=⟨_,rfl⟩
    rw [← hrx] at hbr ⊢
    repeat (first|(with_reducible first|apply X1|apply X2|apply X5|apply X6|apply X8)|((with_reducible apply e_end);(simp;exact Rz))|((with_reducible apply O1);rfl;(simp (disch:=omega) [hb2];exact Rz);exact Rz;(focus (first|(simp;done)|omega|(simp;omega))))|((with_reducible apply W3);(simp (disch:=omega) [hb2];exact Rz)))
    rw [rwV_nil]
    refine e_loop (ι:={ x : Nat × AObj × (Nat→Nat→Option Bool) × (Nat→AV) × Heap // x.1≤c.hs.length∧PMap x.2.1 (mS x.2.2.1)∧PS c x.2.2.1 x.1 0∧Rows (B x.2.1) rx c.hs.length (fun k=>if k < x.1 then flL (stT x.2.2.1 k) c.bs.length else []) x.2.2.2.1 x.2.2.2.2 })
      (fun x=>[(1,.ptr H.length 0),(5,.ptr (sid+1) 0),(6,.slice (sid+2) 0 c.hs.length 1 true),(30,.int .i64 c.hs.length),(31,.int .i64 x.1.1)])
      (fun x=>B x.1.2.1++rx :: AObj.cells (rwV x.1.2.2.2.1 c.hs.length) true :: x.1.2.2.2.2) (fun x=>c.hs.length - x.1.1) ⟨(0,o0,fun _ _=>none,fun _=>.nilslice,[]),by simp,hm0,hP0,Rows.nil _ _ _ _ (fun k _=>by simp)⟩ ?_ ?_
    · refine .inl ?_
      dsimp only
      rw [hBl]
      rfl
    · rintro ⟨⟨h,o,S,vs,G⟩,hi,hm,hP,hR⟩
      dsimp only at hi hm hP hR ⊢
      by_cases hlt : h < c.hs.length
      · have hlt2 : (h : Int) < c.hs.length:=by omega
        repeat (first|(with_reducible first|apply X1|apply X2|apply X5|apply X6|apply X8)|((with_reducible apply e_end);(simp;exact Rz))|((with_reducible apply O1);rfl;(simp (disch:=omega) [hlt2,hb1];exact Rz);exact Rz;(focus (first|(simp;done)|omega|(simp;omega))))|((with_reducible apply Z9);(simp (disch:=omega) [hlt2,hb1];exact Rz)))
        refine e_loop (ι:={ x : Nat × AObj × (Nat→Nat→Option Bool) × (Nat→AV) × Heap // x.1≤c.bs.length∧PMap x.2.1 (mS x.2.2.1)∧PS c x.2.2.1 h x.1∧Rows (B x.2.1) rx c.hs.length (fun k=>if k < h then flL (stT x.2.2.1 k) c.bs.length else if k=h then flL (stT x.2.2.1 h) x.1 else []) x.2.2.2.1 x.2.2.2.2 })
          (fun x=>[(1,.ptr H.length 0),(5,.ptr (sid+1) 0),(6,.slice (sid+2) 0 c.hs.length 1 true),(7,.int .i64 h),(30,.int .i64 c.hs.length),(31,.int .i64 h),(36,.int .i64 c.bs.length),(37,.int .i64 x.1.1)])
          (fun x=>B x.1.2.1++rx :: AObj.cells (rwV x.1.2.2.2.1 c.hs.length) true :: x.1.2.2.2.2) (fun x=>c.bs.length - x.1.1) ⟨(0,o,S,vs,G),by simp,hm,hP,hR.congr fun k _=>by simp [flL]⟩ ?_ ?_
        · exact .inl rfl
        · clear hm hP hR o S vs G
          rintro ⟨⟨i,o,S,vs,G⟩,hi,hm,hP,hR⟩
          dsimp only at hi hm hP hR ⊢
          by_cases hil : i < c.bs.length
          · have hil2 : (i : Int) < c.bs.length:=by omega
            repeat (first|(with_reducible first|apply X1|apply X2|apply X5|apply X6|apply X8)|((with_reducible apply e_end);(simp;exact Rz))|((with_reducible apply O1);rfl;(simp (disch:=omega) [hil2,hbr];exact Rz);exact Rz;(focus (first|(simp;done)|omega|(simp;omega))))|((with_reducible apply Z9);(simp (disch:=omega) [hil2,hbr];exact Rz)))
            (with_reducible apply e_call); (simp; exact Rz); exact ks o S _ hm hP.hnd h i hlt hil (hP.none (by omega))
            rintro _ _ ⟨r,o',rfl,rfl,hm',hr⟩
            have hP':=hP.settle hc (by omega) hlt hil hr
            have hR':=hR.chg (H':=B o') (by rw [hBl,hBl])
            rw [set_old (by rw [hBl]; omega),hPB.set]
            have hst : ∀ k s,k ≠ h∨s ≠ i→stT (setS S h i r) k s=stT S k s:=fun k s hx=>by rw [stT_put]; dsimp only; rw [if_neg (by omega)]
            have hrowk : ∀ k,k ≠ h→flL (stT (setS S h i r) k) c.bs.length=flL (stT S k) c.bs.length:=fun k hk=>flL_congr fun s _=>hst k s (.inl hk)
            have hrowh : flL (stT (setS S h i r) h) i=flL (stT S h) i:=flL_congr fun s hs=>hst h s (.inr (by omega))
            have hsi : stT (setS S h i r) h i=r:=by rw [stT_put]; simp
            cases r with
            | false =>
              repeat (first|(with_reducible first|apply X2|apply X5|apply X8|apply Y2)|((with_reducible apply e_end);(simp;exact Rz))|((with_reducible apply O1);rfl;(simp (disch:=omega);exact Rz);exact Rz;(focus (first|(simp;done)|omega|(simp;omega))))|((with_reducible apply W3);(simp (disch:=omega);exact Rz)))
              refine q_again ⟨(i+1,o',setS S h i false,vs,G),hil,hm',hP',hR'.congr fun k hk=>?_⟩ (by dsimp only; omega) (.inl (by simp))
              by_cases h1 : k < h
              · simp only [h1,if_true]; exact hrowk k (by omega)
              · by_cases h2 : k=h
                · simp only [h2,Nat.lt_irrefl,if_false,if_true,flL_succ,hsi,hrowh,Bool.false_eq_true]
                · simp only [h1,h2,if_false]
            | true =>
              have hrw:=rwV_at vs hlt
              have hrl:=rwV_length vs c.hs.length
              have hle1 : h+1≤c.hs.length:=by omega
              have hRh:=hR'.at_ h hlt
              simp only [Nat.lt_irrefl,if_false,if_true] at hRh
              have hlm:=flL_le (stT S h) i
              have hBl':=hBl o'
              have e3 : sid+2=(B o').length+1:=by rw [hBl]
              rw [e3]
              repeat (first|(with_reducible first|apply X2|apply X8)|((with_reducible apply e_end);(simp;exact Rz))|((with_reducible apply O1);rfl;(simp (disch:=omega) [hlt,hlt2,hrw,hrl,hle1];exact Rz);exact Rz;(focus (first|(simp;done)|omega|(simp;omega))))|((with_reducible apply Z9);(simp (disch:=omega) [hlt,hlt2,hrw,hrl,hle1];exact Rz)))
              refine e_appA (A:=B o'++[rx,.cells (rwV vs c.hs.length) true]) (G:=G++[.cells [.int .i64 (i : Int)] true])
                (cs:=iv (flL (stT S h) i)) (n:=(flL (stT S h) i).length) (m:=1) (new:=[.int .i64 (i : Int)]) (by simp) (by simp; exact Rz) (by simp; exact Rz) (by have:=hRh.app [.cells [.int .i64 (i : Int)] true]; simpa using this) (fun k hk=>by have:=hR'.lo h hlt k hk; simp; omega) (by simp) (by simp) (by omega) (by omega) ?_
              intro G2 v2 e3 e4 e5 e6 e7
              simp only [List.append_assoc,List.cons_append,List.nil_append] at e3 e4 e5 e6 e7 ⊢
              have e3':=e3
              obtain ⟨_,⟨_,h0⟩ | ⟨id2,_,rfl,hh2⟩⟩:=e3'
              · omega
              have hput:=rwV_put vs hlt (.slice id2 0 ((flL (stT S h) i).length+1) 1 false)
              have hid2 : (B o').length+2≤id2:=by have:=e4 id2 rfl; simpa using this
              have hid3:=e6 id2 rfl
              simp only [List.length_append,List.length_cons,List.length_nil] at hid3
              repeat (first|(with_reducible first|apply X2|apply X8|apply Y2)|((with_reducible apply e_end);(simp;exact Rz))|((first|((with_reducible apply O1);rfl)|((with_reducible apply O2);rfl));(simp (disch:=omega) [hlt,hlt2,hrl,hle1,-splice,hput];exact Rz);exact Rz;(focus (first|(simp;done)|omega|(simp;omega)))))
              refine q_again ⟨(i+1,o',setS S h i true,updV vs h (.slice id2 0 ((flL (stT S h) i).length+1) 1 false),G2),hil,hm',hP',?_⟩ (by dsimp only; omega) (.inl (by simp [hBl]))
              have old : ∀ k,k < c.hs.length→∀ i,isId (vs k) i→i < (B o').length+(G.length+2):=fun k hk i hi=>by
                have:=(hR'.at_ k hk).l.lt hi
                simp at this; omega
              refine ⟨fun k hk=>?_,fun k hk i hi=>?_,fun k j hk hj hne i hi hi2=>?_⟩
              · by_cases hkh : k=h
                · subst hkh
                  simp only [updV,if_true,Nat.lt_irrefl,if_false,flL_succ,hsi,hrowh,iv_app,List.length_append]
                  refine e3.keep fun i hi=>get3 ?_
                  have : id2=i:=hi
                  omega
                · simp only [updV,if_neg hkh]
                  have:=hR'.at_ k hk
                  simp only [if_neg hkh] at this
                  rw [hrowk k hkh]
                  refine this.keep fun q hq=>?_
                  have l1:=hR'.lo k hk q hq
                  have l2:=old k hk q hq
                  have l3:=hR'.ne k h hk hlt hkh q hq
                  rw [get3 (b':=AObj.cells (rwV vs c.hs.length) true) l1,e5 q (by simp; omega) l3,get4 l2]
              · by_cases hkh : k=h
                · simp only [updV,if_pos hkh] at hi
                  have : id2=i:=hi
                  show (B o').length+2≤i
                  omega
                · simp only [updV,if_neg hkh] at hi
                  exact hR'.lo k hk i hi
              · by_cases hkh : k=h
                · by_cases hjh : j=h
                  · omega
                  · simp only [updV,if_pos hkh,if_neg hjh] at hi hi2
                    have : id2=i:=hi
                    have:=old j hj i hi2
                    omega
                · by_cases hjh : j=h
                  · simp only [updV,if_neg hkh,if_pos hjh] at hi hi2
                    have : id2=i:=hi2
                    have:=old k hk i hi
                    omega
                  · simp only [updV,if_neg hkh,if_neg hjh] at hi hi2
                    exact hR'.ne k j hk hj hne i hi hi2
          · have hil2 : ¬ (i : Int) < c.bs.length:=by omega
            obtain rfl : i=c.bs.length:=by omega
            repeat (first|(with_reducible first|apply X1|apply X2|apply X4|apply X8|apply Y1|apply Y2|apply Y4|apply Y6)|((with_reducible apply e_end);(simp;exact Rz))|((with_reducible apply O1);rfl;(simp (disch:=omega) [hil2];exact Rz);exact Rz;(focus (first|(simp;done)|omega|(simp;omega))))|((with_reducible apply W3);(simp (disch:=omega) [hil2];exact Rz)))
            refine q_again ⟨(h+1,o,S,vs,G),hlt,hm,hP.row,hR.congr fun k hk=>?_⟩ (by dsimp only; omega) (.inl (by simp))
            by_cases h1 : k < h
            · simp [h1,show k < h+1 by omega]
            · by_cases h2 : k=h
              · simp [h2]
              · simp [h1,h2,show ¬ k < h+1 by omega]
      · have hlt2 : ¬ (h : Int) < c.hs.length:=by omega
        obtain rfl : h=c.hs.length:=by omega
        repeat (first|(with_reducible first|apply X1|apply X2|apply X3|apply X4|apply X8|apply Y1|apply Y4|apply Y6)|((with_reducible apply e_end);(simp;exact Rz))|((with_reducible apply O1);rfl;(simp (disch:=omega) [hlt2];exact Rz);exact Rz;(focus (first|(simp;done)|omega|(simp;omega))))|((with_reducible apply W3);(simp (disch:=omega) [hlt2];exact Rz)))
        obtain ⟨X1,hX1⟩:=hPB.pre o
        have hpl : PlAt (B o++rx :: AObj.cells (rwV vs c.hs.length) true :: G) (.slice (sid+2) 0 c.hs.length 1 true) c.hs.length (fun k=>flL (stT S k) c.bs.length):=by
          refine ⟨sid+2,0,true,vs,rfl,?_,fun k hk=>?_⟩
          · have:=rwV_length vs c.hs.length
            have e3 : sid+2=(B o).length+1:=by rw [hBl]
            rw [e3]
            simp only [rd_new,rd_succ,rd_zero,this,Nat.mul_one,Nat.zero_add,Nat.le_refl,if_true,List.drop_zero]
            rw [List.take_of_length_le (by omega)]; rfl
          · have:=(hR.at_ k hk).l.r
            simp only [hk,if_true] at this
            exact this
        exact q_stay (.inr rfl) (by simp; exact Rz) (.inl ⟨_,X1++rx :: AObj.cells (rwV vs c.hs.length) true :: G,_,rfl,by rw [hX1,List.append_assoc],hpl,hP.best hc (by omega)⟩)
open Go.Hall
theorem okL_get2 {n : Nat} {l : List Int} (h : okL n l) : ∀ {i j : Nat} (hj : j < l.length) (hij : i < j),l[i] < l[j]:=by
  intro i j
  induction j with
  | zero=>intro _ h; omega
  | succ j ih =>
    intro hj hij
    have h1:=(h (j+1) hj).2 (by omega)
    simp only [Nat.add_sub_cancel] at h1
    by_cases e : i=j
    · subst e; exact h1
    · exact Int.lt_trans (ih (by omega) (by omega)) h1
theorem cK_take {n : Nat} {l : List Int} (h : okL n l) (s : Nat) : ∀ {k : Nat},k≤l.length→cK l k s=if (s : Int) ∈ l.take k then 1 else 0
  | 0,_=>by simp [cK]
  | k+1,hk=>by
    have ih:=cK_take h s (k:=k) (by omega)
    have e : l.getD k 0=l[k]:=by simp [List.getD_eq_getElem?_getD,List.getElem?_eq_getElem (show k < l.length by omega)]
    have e2 : l.take (k+1)=l.take k++[l[k]]:=List.take_succ_eq_append_getElem (by omega)
    simp only [cK,ih,e,e2,List.mem_append,List.mem_singleton]
    by_cases h1 : l[k]=(s : Int)
    · have h2 : ¬ (s : Int) ∈ l.take k:=fun hm=>by
        obtain ⟨i,hi,hi2⟩:=List.getElem_of_mem hm
        simp only [List.length_take] at hi
        rw [List.getElem_take] at hi2
        have:=okL_get2 h (i:=i) (j:=k) (by omega) (by omega)
        omega
      simp [h1,h2]
    · have h3 : ¬ (s : Int)=l[k]:=fun x=>h1 x.symm
      simp [h1,h3]
theorem cK_mem {n : Nat} {l : List Int} (h : okL n l) (s : Nat) : cK l l.length s=if (s : Int) ∈ l then 1 else 0:=by
  rw [cK_take h s (Nat.le_refl _),List.take_length]
theorem cP_ct {c : Cv} {L : Nat→List Int} (hL : okPl c L) (s : Nat) : ∀ {h : Nat},h≤c.hs.length→cP L h s=ct (fun h=>inP L h s) h
  | 0,_=>rfl
  | h+1,hh=>by
    have ih:=cP_ct hL s (h:=h) (by omega)
    have e : ct (fun h=>inP L h s) (h+1)=ct (fun h=>inP L h s) h+if inP L h s=true then 1 else 0:=rfl
    rw [e,← ih]
    simp only [cP,cK_mem (hL h (by omega)).2,inP,decide_eq_true_eq]
theorem best_count {c : Cv} {n : Nat} (hc : c.ok n) {L : Nat→List Int} (hb : BestP c L) {s : Nat} (hs : s < c.bs.length) : cP L c.hs.length s=ndF c s c.hs.length:=by
  have h8:=hc.hours
  rw [cP_ct hb.ok s (Nat.le_refl _),hb.good.tot s hs]
  simp only [ndR]
  congr 1; omega
theorem safe_count {c : Cv} {n : Nat} (hc : c.ok n) {O : Nat→List Int} (ho : okPl c O) (h2 : safeF c O=2) {s : Nat} (hs : s < c.bs.length) : ndF c s c.hs.length≤cP O c.hs.length s:=by
  have h8:=hc.hours
  have a:=(safe2_iff hc).1 h2 s hs (c.hs.length - 1) (by omega)
  have b:=ct_mono (p:=fun h=>inP O h s) (show c.hs.length - 1≤c.hs.length by omega)
  rw [cP_ct ho s (Nat.le_refl _)]
  have e : ndR c s (c.hs.length - 1)=ndF c s c.hs.length:=by simp only [ndR]; congr 1; omega
  omega
theorem water_le {c : Cv} {L O : Nat→List Int} (hL : okPl c L) (hO : okPl c O) {r : Int} {g : Nat→Int} (hr : 0≤r) (hg : ∀ s,s < c.bs.length→0≤g s) (h : ∀ s,s < c.bs.length→cP L c.hs.length s≤cP O c.hs.length s) : waP r g L c.hs.length≤waP r g O c.hs.length:=by
  rw [wa_cP hL (Nat.le_refl _),wa_cP hO (Nat.le_refl _)]
  exact smF_le fun s hs=>Int.mul_le_mul_of_nonneg_right (Int.mul_le_mul_of_nonneg_right (h s hs) hr) (hg s hs)
theorem ct_oneI (x : Int) (n : Nat) : ct (fun s=>decide ((s : Int)=x)) n≤1:=by
  by_cases h0 : 0≤x
  · obtain ⟨a,rfl⟩:=Int.eq_ofNat_of_zero_le h0
    have : ct (fun s=>decide ((s : Int)=(a : Int))) n=sm (fun i=>if i=a then 1 else 0) n:=sm_congr fun i _=>by
      by_cases h : i=a
      · simp [h]
      · have : ¬ (i : Int)=(a : Int):=by omega
        simp [h,this]
    rw [this,sm_one]; split <;> omega
  · have : ct (fun s=>decide ((s : Int)=x)) n=0:=(sm_congr fun i _=>by
      have : ¬ (i : Int)=x:=by omega
      simp [this]).trans (sm_zero n)
    omega
theorem ct_in (n : Nat) : ∀ l : List Int,ct (fun s=>decide ((s : Int) ∈ l)) n≤l.length
  | []=>by
    have : ct (fun s=>decide ((s : Int) ∈ ([] : List Int))) n=0:=(sm_congr fun i _=>by simp).trans (sm_zero n)
    rw [this]; simp
  | x :: l=>by
    have a:=ct_in n l
    have b:=ct_oneI x n
    have d : ct (fun s=>decide ((s : Int) ∈ x :: l)) n≤ct (fun s=>decide ((s : Int)=x)) n+ct (fun s=>decide ((s : Int) ∈ l)) n:=ct_cover fun i _ hi=>by
      simp at hi ⊢; exact hi
    simp only [List.length_cons]; omega
theorem rows_le {c : Cv} {O : Nat→List Int} (ho : okPl c O) {h : Nat} (hh : h < c.hs.length) : ct (inP O h) c.bs.length≤handsF c h :=
  Int.le_trans (ct_in c.bs.length (O h)) (ho h hh).1
theorem feas_safe {c : Cv} {n : Nat} (hc : c.ok n) (hb : c.bs.length≤12) {O : Nat→List Int} (ho : okPl c O) (h2 : safeF c O=2) : feasR c (fun _ _=>none) :=
  (feas0_iff hb hc.hours.2).2 ⟨inP O,fun h hh=>rows_le ho hh,(safe2_iff hc).1 h2⟩
theorem good_of {c : Cv} {n : Nat} (hc : c.ok n) {O : Nat→List Int} (ho : okPl c O) (h2 : safeF c O=2) (he : ∀ s,s < c.bs.length→cP O c.hs.length s=ndF c s c.hs.length) : GoodP c (inP O) :=
  ⟨fun h hh=>rows_le ho hh,(safe2_iff hc).1 h2,fun s hs=>by
    have h8:=hc.hours
    rw [← cP_ct ho s (Nat.le_refl _),he s hs]
    simp only [ndR]; congr 1; omega⟩
theorem c_iWaterV2 (H : Heap) (l : List Str) (c : Cv) (p : Plc) (hp : CvAt H c p) (ht : TrAt H l p) (hv : validL l) (hc : c.ok l.length) (pl : AV) (L : Nat→List Int) (hpl : PlAt H pl c.hs.length L) (hL : okPl c L) :
    ACalls Try.prog F.qah [.agg (c.av p),pl] H (fun v h'=>v=.tuple [.agg [.int .i64 (waP c.rate (fun s=>(strAt l s).lLo) L c.hs.length),.int .i64 (waP c.rate (fun s=>(strAt l s).lHi) L c.hs.length)],.int .i64 0]∧h'=H):=by
  have h12:=hv.1
  have hlen:=hc.len
  have h8:=hc.hours
  refine (c_iWaterG H l c p hp ht (by omega) (by omega) (by omega) pl _ L hpl (okPl_len hc hL) (by omega)).mono ?_
  rintro _ _ ⟨rfl,lo,hi,e,rfl,⟨h1,h2,_⟩ | ⟨_,_,_,rfl,rfl,rfl⟩⟩
  · rcases h1 with h1 | h1 | h1
    · exact absurd h1.2.2.2 h2
    · exact absurd ⟨hv,hc⟩ h1.1
    · exact absurd ⟨rfl,hL⟩ h1.2.2.1
  · exact ⟨rfl,rfl⟩
open Go.Hall
theorem iat_of {h : Heap} {id n : Nat} {f : Nat→Int} {ex : Bool} (hh : h[id]?=some (.cells (avL f n) true)) : IAt h (.slice id 0 n 1 ex) (tnL f n):=by
  have:=(LAt.of hh (n:=n) (sz:=1) (by rw [avL_length,Nat.mul_one]) ex).r
  unfold IAt
  rw [iv_tn,tnL_len]; exact this
theorem str_ok {l : List Str} (hv : validL l) {s : Nat} (hs : s < l.length) : (strAt l s).ok:=by
  obtain ⟨h,h1,_⟩:=hv.2 s hs
  have : strAt l s=l[s]:=by simp [strAt,List.getD_eq_getElem?_getD,List.getElem?_eq_getElem h]
  rw [this]; exact h1
theorem lLo_nn {l : List Str} (hv : validL l) {s : Nat} (hs : s < l.length) : 0≤(strAt l s).lLo:=by
  have:=(str_ok hv hs).2.2.1; omega
theorem lHi_nn {l : List Str} (hv : validL l) {s : Nat} (hs : s < l.length) : 0≤(strAt l s).lHi:=by
  have:=(str_ok hv hs).2.2.1; omega
theorem sm_zero_at {f : Nat→Int} : ∀ {n : Nat},(∀ s,s < n→0≤f s)→sm f n≤0→∀ {s : Nat},s < n→f s=0
  | 0,_,_,s,hs=>by omega
  | n+1,h,h0,s,hs=>by
    have a:=h n (by omega)
    have b:=sm_nonneg (f:=f) (n:=n) fun i hi=>h i (by omega)
    simp only [sm] at h0
    by_cases e : s=n
    · subst e; omega
    · exact sm_zero_at (n:=n) (fun i hi=>h i (by omega)) (by omega) (by omega)
theorem safeF_in3 (c : Cv) (L : Nat→List Int) : 0≤safeF c L∧safeF c L≤2:=by
  simp only [safeF]
  split
  · omega
  · split <;> omega
set_option maxHeartbeats 4000000 in
theorem c_lawIL (H : Heap) (l : List Str) (c : Cv) (p : Plc) (us : List Int) (uid uoff : Nat) (uex : Bool) (hp : CvAt H c p) (ht : TrAt H l p) (hn : (l.length : Int)≤9223372036854775807) (hn1 : (c.bs.length : Int)≤9223372036854775807) (hn2 : (c.hs.length : Int)≤9223372036854775807)
    (hb : rd H uid uoff us.length=some (us.map (.int .u32))) (hu : ∀ u ∈ us,0≤u∧u≤4294967295) (hun : (us.length : Int)≤9223372036854775807) :
    ACalls Try.prog F.qbs [.agg (c.av p),.slice uid uoff us.length 1 uex] H (fun v _=>v=.bool true):=by
  have hp1:=hp.t
  have hp2:=rd_lt hp.b
  have hp3:=rd_lt hp.h
  have huid:=rd_lt hb
  have kr:=fun G=>c_ready2 (H++G) l c p (hp.app G) (ht.app G) hn hn1 hn2
  have kn:=fun G hc hv=>c_iNeedV (H++G) l c p (hp.app G) (ht.app G) hc hv
  have kp:=fun G hc hv=>c_PlanV (H++G) l c p (hp.app G) (ht.app G) hc hv
  have kd:=fun G hc hv=>c_drawn2 (H++G) l c p (hp.app G) hc hv us 0 uid uoff uex (by rw [rd_old _ huid]; exact hb) hu hun (by omega)
  have ks:=fun G hv hc=>c_iSafeV (H++G) l c p (hp.app G) (ht.app G) hv hc
  have kw:=fun G hv hc=>c_iWaterV2 (H++G) l c p (hp.app G) (ht.app G) hv hc
  have kc:=fun G hv hc=>c_count (H++G) l c p (hp.app G) hc hv
  have kv:=fun G m hc hm=>c_r2Valid (H++G) c p m (hp.app G) hc hm
  simp only [Cv.av] at kr kn kp kd ks kw kc kv ⊢
  refine acalls_of ok_qbs rfl fun hcl=>?_
  unfold ac_qbs zo
  simp only [argsT,Nat.zero_add,Nat.reduceAdd]
  repeat (first|(with_reducible first|apply X1|apply X2|apply X8)|((with_reducible apply e_end);(simp;exact Rz))|((with_reducible apply O1);rfl;(simp (disch:=omega);exact Rz);exact Rz;(focus (first|(simp;done)|omega|(simp;omega)))))
  (with_reducible apply e_call); (simp; exact Rz); exact c_aliveI _
  rintro _ _ ⟨rfl,rfl⟩
  repeat (first|(with_reducible first|apply X1|apply X2|apply X5|apply X8)|((with_reducible apply e_end);(simp;exact Rz))|((with_reducible apply O1);rfl;(simp (disch:=omega);exact Rz);exact Rz;(focus (first|(simp;done)|omega|(simp;omega))))|((with_reducible apply W3);(simp (disch:=omega);exact Rz)))
  (with_reducible apply e_call); (simp; exact Rz); exact kr _
  rintro _ _ ⟨rfl,b,rfl,hrd⟩
  cases b with
  | false =>
    repeat (first|(with_reducible first|apply X1|apply X2|apply X3|apply X8|apply X9)|((with_reducible apply e_end);(simp;exact Rz))|((with_reducible apply O1);rfl;(simp (disch:=omega);exact Rz);exact Rz;(focus (first|(simp;done)|omega|(simp;omega))))|((with_reducible apply Z9);(simp (disch:=omega);exact Rz)))
    exact q_stay (.inr rfl) (by simp; exact Rz) rfl
  | true =>
  obtain ⟨hv,hc⟩:=hrd.1 rfl
  have h12:=hv.1
  have hlen:=hc.len
  have h8:=hc.hours
  have hb12 : c.bs.length≤12:=by omega
  have hbs0 : ¬ c.bs.length=0:=by omega
  have elv : ∀ Z,lsV Z 1 c.bs.length=.slice Z.length 0 c.bs.length 1 false:=fun Z=>by simp [lsV,hbs0]
  have elo : ∀ cs,lsO c.bs.length cs=[.cells cs true]:=fun cs=>by simp [lsO,hbs0]
  simp only [elv,elo,iv_tn] at kn
  have hokp:=plnL_okPl hc us 0
  repeat (first|(with_reducible first|apply X1|apply X2|apply X5|apply X8)|((with_reducible apply e_end);(simp;exact Rz))|((with_reducible apply O1);rfl;(simp (disch:=omega);exact Rz);exact Rz;(focus (first|(simp;done)|omega|(simp;omega))))|((with_reducible apply W3);(simp (disch:=omega);exact Rz)))
  (with_reducible apply e_call); (simp; exact Rz); exact kn _ hc hv
  rintro _ _ ⟨rfl,rfl⟩
  repeat (first|(with_reducible first|apply X1|apply X2|apply X8)|((with_reducible apply e_end);(simp;exact Rz))|((with_reducible apply O1);rfl;(simp (disch:=omega);exact Rz);exact Rz;(focus (first|(simp;done)|omega|(simp;omega)))))
  (with_reducible apply e_call); (simp; exact Rz); exact kp _ hc hv
  rintro _ _ (⟨pl,G,L,rfl,rfl,hpl,hb⟩ | ⟨hst,rfl,rfl⟩)
  rotate_left
  · repeat (first|(with_reducible first|apply X1|apply X2|apply X8)|((with_reducible apply e_end);(simp;exact Rz))|((with_reducible apply O1);rfl;(simp (disch:=omega);exact Rz);exact Rz;(focus (first|(simp;done)|omega|(simp;omega)))))
    (with_reducible apply e_call); (simp; exact Rz); exact kd _ hc hv
    rintro pl _ ⟨G,rfl,hpl⟩
    generalize (fun h=>plnL c us 0 h c.bs.length)=O at *
    have hb1x : (0 : Int)=0:=rfl
    have hns : ¬ safeF c O=2:=fun h2=>hst.no h8.2 (feas_safe hc hb12 hokp h2)
    obtain ⟨pid,poff,pex,rfl,hpid,hrow⟩:=hpl.get
    repeat (first|(with_reducible first|apply X1|apply X2|apply X8)|((with_reducible apply e_end);(simp;exact Rz))|((with_reducible apply O1);rfl;(simp (disch:=omega);exact Rz);exact Rz;(focus (first|(simp;done)|omega|(simp;omega)))))
    have hpl':=hpl
    simp only [List.append_assoc,List.cons_append,List.nil_append] at hpl'
    (with_reducible apply e_call); (simp; exact Rz); exact ks _ hv hc _ O (by simpa using hpl) hokp
    rintro _ _ ⟨rfl,rfl⟩
    have hsr:=safeF_in3 c O
    repeat (first|(with_reducible first|apply X1|apply X2|apply X3|apply X5|apply X8|apply X9)|((with_reducible apply e_end);(simp;exact Rz))|((with_reducible apply O1);rfl;(simp (disch:=omega) [hb1x,hns];exact Rz);exact Rz;(focus (first|(simp;done)|omega|(simp;omega))))|((with_reducible first|apply Z7|apply Z9);(simp (disch:=omega) [hb1x,hns];exact Rz))|((with_reducible apply W3);(simp (disch:=omega) [hb1x,hns];exact Rz)))
    exact q_stay (.inr rfl) (by simp; exact Rz) rfl
  · repeat (first|(with_reducible first|apply X1|apply X2|apply X8)|((with_reducible apply e_end);(simp;exact Rz))|((with_reducible apply O1);rfl;(simp (disch:=omega);exact Rz);exact Rz;(focus (first|(simp;done)|omega|(simp;omega)))))
    (with_reducible apply e_call); (simp; exact Rz); exact kd _ hc hv
    rintro pl2 _ ⟨G2,rfl,hpl2⟩
    generalize (fun h=>plnL c us 0 h c.bs.length)=O at *
    obtain ⟨pid,poff,pex,rfl,hpid,hrow⟩:=hpl.get
    obtain ⟨pid2,poff2,pex2,rfl,hpid2,hrow2⟩:=hpl2.get
    obtain ⟨XM,hXM⟩ : ∃ XM,XM=.cells [AV.slice p.tid p.toff p.tn 9 p.tex,.slice p.bid p.boff c.bs.length 3 p.bex,.slice p.hid p.hoff c.hs.length 5 p.hex,.int .i64 c.w1,.int .i64 c.w2,.int .i64 c.y1,.int .i64 c.y2,.int .i64 c.rate,.int .i64 c.lim,.int .i64 c.base] true :: .cells (avL (fun s=>ndF c s c.hs.length) c.bs.length) true :: (G++G2):=⟨_,rfl⟩
    obtain ⟨M,hM⟩ : ∃ M,M=H++XM:=⟨_,rfl⟩
    have eM : ∀ T,H++(XM++T)=M++T:=fun T=>by rw [hM,List.append_assoc]
    have hHM : H.length+1 < M.length:=by rw [hM,hXM]; simp
    have hbM : ∀ T,rd (M++T) H.length 0 10=some [AV.slice p.tid p.toff p.tn 9 p.tex,.slice p.bid p.boff c.bs.length 3 p.bex,.slice p.hid p.hoff c.hs.length 5 p.hex,.int .i64 c.w1,.int .i64 c.w2,.int .i64 c.y1,.int .i64 c.y2,.int .i64 c.rate,.int .i64 c.lim,.int .i64 c.base]:=fun T=>by rw [rd_old _ (by omega)]; rw [hM,hXM]; simp
    have hb1M:=fun T=>rd_sub' (hbM T) 1 1 (by omega)
    simp only [List.drop_succ_cons,List.drop_zero,List.take_succ_cons,List.take_zero,Nat.zero_add] at hb1M
    have hneed : ∀ T,(M++T)[H.length+1]?=some (.cells (avL (fun s=>ndF c s c.hs.length) c.bs.length) true):=fun T=>by rw [List.getElem?_append_left hHM,hM,hXM]; simp
    have hplM : ∀ T,PlAt (M++T) (.slice pid poff c.hs.length 1 pex) c.hs.length L:=fun T=>by
      have:=(hpl.app G2).app T
      rw [hM,hXM]; simpa using this
    have hpl2M : ∀ T,PlAt (M++T) (.slice pid2 poff2 c.hs.length 1 pex2) c.hs.length O:=fun T=>by
      have:=hpl2.app T
      rw [hM,hXM]; simpa using this
    have hLl:=okPl_len hc hb.ok
    have ks1:=fun T=>ks (XM++T) hv hc
    have kw1:=fun T=>kw (XM++T) hv hc
    have kc1:=fun T=>kc (XM++T) hv hc
    have kv1:=fun T=>kv (XM++T) _ hc (by omega)
    simp only [eM] at ks1 kw1 kc1 kv1
    have ksO:=fun T=>ks1 T _ O (hpl2M T) hokp
    have ksL:=fun T=>ks1 T _ L (hplM T) hb.ok
    have kwO:=fun T=>kw1 T _ O (hpl2M T) hokp
    have kwL:=fun T=>kw1 T _ L (hplM T) hb.ok
    have kcO:=fun T=>kc1 T _ O (hpl2M T) hokp
    have kcL:=fun T=>kc1 T _ L (hplM T) hb.ok
    have kvL:=fun T=>kv1 T _ _ L (hplM T) hLl (by omega) (b:=true) (by simp [hb.ok])
    have hs2 : safeF c L=2:=(safe2_iff hc).2 hb.good.needs
    have e0 : H++.cells [AV.slice p.tid p.toff p.tn 9 p.tex,.slice p.bid p.boff c.bs.length 3 p.bex,.slice p.hid p.hoff c.hs.length 5 p.hex,.int .i64 c.w1,.int .i64 c.w2,.int .i64 c.y1,.int .i64 c.y2,.int .i64 c.rate,.int .i64 c.lim,.int .i64 c.base] true :: .cells (avL (fun s=>ndF c s c.hs.length) c.bs.length) true :: G++G2=M:=by rw [hM,hXM]; simp
    have ksO0:=ksO []
    have kvL0:=kvL []
    have hbM0:=hbM []
    have hb1M0:=hb1M []
    rw [List.append_nil] at ksO0 kvL0 hbM0 hb1M0
    have kcL0:=kcL []
    rw [List.append_nil] at kcL0
    rw [e0]
    clear hM hXM e0 ks1 kw1 kc1 kv1 ks kw kc kv kd kp kn kr
    have hsr:=safeF_in3 c O
    repeat (first|(with_reducible first|apply X1|apply X2|apply X8)|((with_reducible apply e_end);(simp;exact Rz))|((with_reducible apply O1);rfl;(simp (disch:=omega) [hbM0];exact Rz);exact Rz;(focus (first|(simp;done)|omega|(simp;omega)))))
    (with_reducible apply e_call); (simp; exact Rz); exact ksO0
    rintro _ hqh ⟨rfl,hqe⟩
    rw [hqe]; clear hqe hqh
    repeat (first|(with_reducible first|apply X1|apply X2|apply X5|apply X8)|((with_reducible apply e_end);(simp;exact Rz))|((with_reducible apply O1);rfl;(simp (disch:=omega) [hb1M0,hbM0];exact Rz);exact Rz;(focus (first|(simp;done)|omega|(simp;omega))))|((with_reducible apply Z7);(simp (disch:=omega) [hb1M0,hbM0];exact Rz))|((with_reducible apply W3);(simp (disch:=omega) [hb1M0,hbM0];exact Rz)))
    (with_reducible apply e_call); (simp; exact Rz); exact kvL0
    rintro _ hqh ⟨rfl,hqe⟩
    rw [hqe]; clear hqe hqh
    repeat (first|((with_reducible apply O1);rfl;(simp (disch:=omega) [hb1M0,hbM0];exact Rz);exact Rz;(focus (first|(simp;done)|omega|(simp;omega))))|((with_reducible apply Z7);(simp (disch:=omega) [hb1M0,hbM0];exact Rz)))
    (with_reducible apply e_call); (simp; exact Rz); exact kcL0
    rintro _ hqh ⟨rfl,hqe⟩
    rw [hqe]; clear hqe hqh
    have ecL : avL (cP L c.hs.length) c.bs.length=avL (fun s=>ndF c s c.hs.length) c.bs.length:=by
      simp only [avL]
      apply List.map_congr_left
      intro s hs
      rw [best_count hc hb (List.mem_range.1 hs)]
    rw [ecL]
    repeat (first|((with_reducible apply O1);rfl;(simp (disch:=omega);exact Rz);exact Rz;(focus (first|(simp;done)|omega|(simp;omega))))|((with_reducible apply Z7);(simp (disch:=omega);exact Rz)))
    (with_reducible apply e_call); (simp; exact Rz); exact c_r2SameInts _ _ _ (tnL (fun s=>ndF c s c.hs.length) c.bs.length) (iat_of (by simp)) (iat_of (hneed _)) (by rw [tnL_len]; omega)
    rintro _ _ ⟨rfl,rfl⟩
    repeat (first|(with_reducible first|apply X1|apply X2|apply X5|apply X8)|((with_reducible apply e_end);(simp;exact Rz))|((with_reducible apply O1);rfl;(simp (disch:=omega) [hbM];exact Rz);exact Rz;(focus (first|(simp;done)|omega|(simp;omega))))|((with_reducible apply Z7);(simp (disch:=omega) [hbM];exact Rz))|((with_reducible apply W3);(simp (disch:=omega) [hbM];exact Rz)))
    (with_reducible apply e_call); (simp; exact Rz); exact ksL _
    rintro _ _ ⟨rfl,rfl⟩
    repeat (first|(with_reducible first|apply X1|apply X2|apply X8)|((with_reducible apply e_end);(simp;exact Rz))|((with_reducible apply O1);rfl;(simp (disch:=omega) [hbM];exact Rz);exact Rz;(focus (first|(simp;done)|omega|(simp;omega)))))
    (with_reducible apply e_call); (simp; exact Rz); exact kwL _
    rintro _ _ ⟨rfl,rfl⟩
    repeat (first|(with_reducible first|apply X1|apply X2|apply X8)|((with_reducible apply e_end);(simp;exact Rz))|((first|((with_reducible apply O1);rfl)|((with_reducible apply O2);rfl));(simp (disch:=omega) [hbM];exact Rz);exact Rz;(focus (first|(simp;done)|omega|(simp;omega)))))
    (with_reducible apply e_call); (simp; exact Rz); exact kwO _
    rintro _ _ ⟨rfl,rfl⟩
    repeat (first|(with_reducible first|apply X1|apply X2|apply X5|apply X8)|((with_reducible apply e_end);(simp;exact Rz))|((first|((with_reducible apply O1);rfl)|((with_reducible apply O2);rfl));(simp (disch:=omega) [hs2];exact Rz);exact Rz;(focus (first|(simp;done)|omega|(simp;omega))))|((with_reducible apply Z7);(simp (disch:=omega) [hs2];exact Rz))|((with_reducible apply W3);(simp (disch:=omega) [hs2];exact Rz)))
    by_cases h2 : safeF c O=2
    rotate_left
    · repeat (first|(with_reducible first|apply X1|apply X2|apply X3|apply X8|apply X9)|((with_reducible apply e_end);(simp;exact Rz))|((with_reducible apply O1);rfl;(simp (disch:=omega) [h2];exact Rz);exact Rz;(focus (first|(simp;done)|omega|(simp;omega))))|((with_reducible apply Z9);(simp (disch:=omega) [h2];exact Rz)))
      exact q_stay (.inr rfl) (by simp; exact Rz) rfl
    repeat (first|(with_reducible first|apply X1|apply X2|apply X5|apply X8)|((with_reducible apply O1);rfl;(simp (disch:=omega) [h2,hbM];exact Rz);exact Rz;(focus (first|(simp;done)|omega|(simp;omega))))|((with_reducible apply W3);(simp (disch:=omega) [h2,hbM];exact Rz)))
    (with_reducible apply e_call); (simp; exact Rz); exact kcO _
    rintro _ _ ⟨rfl,rfl⟩
    repeat (first|(with_reducible first|apply X1|apply X2|apply X6|apply X8)|((with_reducible apply e_end);(simp;exact Rz))|((with_reducible apply O1);rfl;(simp (disch:=omega);exact Rz);exact Rz;(focus (first|(simp;done)|omega|(simp;omega)))))
    have hnr:=fun T i (hi : i < c.bs.length)=>rd_cell (hneed T) hi
    have fb : ∀ s,s < c.bs.length→0≤cP O c.hs.length s - ndF c s c.hs.length∧cP O c.hs.length s - ndF c s c.hs.length≤96:=fun s hs=>by
      have a1:=safe_count hc hokp h2 hs
      have a2:=(cP_bd hc hokp s (h:=c.hs.length) (Nat.le_refl _)).2
      have a3:=(ndF_bd hc hs (h:=c.hs.length) (Nat.le_refl _)).1
      omega
    have sb : ∀ i,i≤c.bs.length→0≤sm (fun s=>cP O c.hs.length s - ndF c s c.hs.length) i∧sm (fun s=>cP O c.hs.length s - ndF c s c.hs.length) i≤96 * i:=fun i=>by
      induction i with
      | zero=>intro _; simp [sm]
      | succ i ih =>
        intro hi
        have a1:=ih (by omega)
        have a2:=fb i (by omega)
        simp only [sm]; omega
    refine e_loop (ι:={ i : Nat // i≤c.bs.length }) (fun i=>[(2,.ptr H.length 0),(5,.bool true),(6,.slice (H.length+1) 0 c.bs.length 1 false),(8,.slice pid poff c.hs.length 1 pex),(10,.slice pid2 poff2 c.hs.length 1 pex2),(15,.ptr (M.length+1) 0),(17,.ptr (M.length+2) 0),(19,.slice (M.length+3) 0 c.bs.length 1 true),(20,.int .i64 (sm (fun s=>cP O c.hs.length s - ndF c s c.hs.length) i.1)),(133,.int .i64 c.bs.length),(134,.int .i64 i.1)])
      (fun _=>M++[.cells (avL (fun s=>ndF c s c.hs.length) c.bs.length) true,.cells [.int .i64 (waP c.rate (fun s=>(strAt l s).lLo) L c.hs.length),.int .i64 (waP c.rate (fun s=>(strAt l s).lHi) L c.hs.length)] true,.cells [.int .i64 (waP c.rate (fun s=>(strAt l s).lLo) O c.hs.length),.int .i64 (waP c.rate (fun s=>(strAt l s).lHi) O c.hs.length)] true,.cells (avL (cP O c.hs.length) c.bs.length) true]) (fun i=>c.bs.length - i.1) ⟨0,by simp⟩ ?_ ?_
    · exact .inl (by simp [sm])
    · rintro ⟨i,hi⟩
      dsimp only
      by_cases hil : i < c.bs.length
      · have hil2 : (i : Int) < c.bs.length:=by omega
        have hl1 : i+1≤c.bs.length:=hil
        have l1:=avL_one (f:=cP O c.hs.length) hil
        have a1:=sb i hi
        have a2:=fb i hil
        have a4:=cP_bd hc hokp i (h:=c.hs.length) (Nat.le_refl _)
        have a5:=ndF_bd hc hil (h:=c.hs.length) (Nat.le_refl _)
        have a6 : ¬ cP O c.hs.length i < ndF c i c.hs.length:=by omega
        have a3 : sm (fun s=>cP O c.hs.length s - ndF c s c.hs.length) (i+1)=sm (fun s=>cP O c.hs.length s - ndF c s c.hs.length) i+(cP O c.hs.length i - ndF c i c.hs.length):=rfl
        have hnr1:=fun T=>hnr T i hil
        repeat (first|(with_reducible first|apply X1|apply X2|apply X5|apply X6|apply X8|apply Y2|apply Y9)|((with_reducible first|apply e_end|apply d_end);(simp;exact Rz))|((first|((with_reducible apply O1);rfl)|((with_reducible apply P1);rfl)|((with_reducible apply P2);rfl));(simp (disch:=omega) [hil,hil2,hl1,avL_length,l1,hnr1,a6];exact Rz);exact Rz;(focus (first|(simp;done)|omega|(simp;omega))))|((with_reducible apply Z9);(simp (disch:=omega) [hil,hil2,hl1,avL_length,l1,hnr1,a6];exact Rz))|((with_reducible apply W3);(simp (disch:=omega) [hil,hil2,hl1,avL_length,l1,hnr1,a6];exact Rz)))
        exact q_again ⟨i+1,hil⟩ (by dsimp only; omega) (.inl (by simp [a3]))
      · have hil2 : ¬ (i : Int) < c.bs.length:=by omega
        obtain rfl : i=c.bs.length:=by omega
        have hr0 : 0≤c.rate:=hc.rul.2.2.1.1
        have hcnt : ∀ s,s < c.bs.length→cP L c.hs.length s≤cP O c.hs.length s:=fun s hs=>by rw [best_count hc hb hs]; exact safe_count hc hokp h2 hs
        have w1:=water_le hb.ok hokp (g:=(fun s=>(strAt l s).lLo)) hr0 (fun s hs=>lLo_nn hv (by omega)) hcnt
        have w2:=water_le hb.ok hokp (g:=(fun s=>(strAt l s).lHi)) hr0 (fun s hs=>lHi_nn hv (by omega)) hcnt
        have w3 : ¬ waP c.rate (fun s=>(strAt l s).lLo) O c.hs.length < waP c.rate (fun s=>(strAt l s).lLo) L c.hs.length:=by omega
        have w4 : ¬ waP c.rate (fun s=>(strAt l s).lHi) O c.hs.length < waP c.rate (fun s=>(strAt l s).lHi) L c.hs.length:=by omega
        by_cases hsum : 0 < sm (fun s=>cP O c.hs.length s - ndF c s c.hs.length) c.bs.length
        · repeat (first|(with_reducible first|apply X1|apply X2|apply X3|apply X4|apply X5|apply X8|apply X9|apply Y1|apply Y4|apply Y6)|((with_reducible apply e_end);(simp;exact Rz))|((with_reducible apply O1);rfl;(simp (disch:=omega) [hil,hil2,w3,w4,hsum];exact Rz);exact Rz;(focus (first|(simp;done)|omega|(simp;omega))))|((with_reducible first|apply Z7|apply Z9);(simp (disch:=omega) [hil,hil2,w3,w4,hsum];exact Rz))|((with_reducible apply W3);(simp (disch:=omega) [hil,hil2,w3,w4,hsum];exact Rz)))
          exact q_stay (.inr rfl) (by simp; exact Rz) rfl
        repeat (first|(with_reducible first|apply X1|apply X2|apply X4|apply X5|apply X6|apply X8|apply Y1|apply Y4|apply Y6)|((with_reducible apply e_end);(simp;exact Rz))|((with_reducible apply O1);rfl;(simp (disch:=omega) [hil,hil2,w3,w4,hsum];exact Rz);exact Rz;(focus (first|(simp;done)|omega|(simp;omega))))|((with_reducible apply Z7);(simp (disch:=omega) [hil,hil2,w3,w4,hsum];exact Rz))|((with_reducible apply W3);(simp (disch:=omega) [hil,hil2,w3,w4,hsum];exact Rz)))
        have heq : ∀ s,s < c.bs.length→cP O c.hs.length s=ndF c s c.hs.length:=fun s hs=>by
          have:=sm_zero_at (fun s hs=>(fb s hs).1) (Int.not_lt.1 hsum) hs
          omega
        have hgO:=good_of hc hokp h2 heq
        have khW:=fun v (ll : List Int) x hl hn b hb=>cv_Has (M++[.cells (avL (fun s=>ndF c s c.hs.length) c.bs.length) true,.cells [.int .i64 (waP c.rate (fun s=>(strAt l s).lLo) L c.hs.length),.int .i64 (waP c.rate (fun s=>(strAt l s).lHi) L c.hs.length)] true,.cells [.int .i64 (waP c.rate (fun s=>(strAt l s).lLo) O c.hs.length),.int .i64 (waP c.rate (fun s=>(strAt l s).lHi) O c.hs.length)] true,.cells (avL (cP O c.hs.length) c.bs.length) true]) v ll x hl hn (b:=b) hb
        have hb1W:=hb1M [.cells (avL (fun s=>ndF c s c.hs.length) c.bs.length) true,.cells [.int .i64 (waP c.rate (fun s=>(strAt l s).lLo) L c.hs.length),.int .i64 (waP c.rate (fun s=>(strAt l s).lHi) L c.hs.length)] true,.cells [.int .i64 (waP c.rate (fun s=>(strAt l s).lLo) O c.hs.length),.int .i64 (waP c.rate (fun s=>(strAt l s).lHi) O c.hs.length)] true,.cells (avL (cP O c.hs.length) c.bs.length) true]
        have hplW:=hplM [.cells (avL (fun s=>ndF c s c.hs.length) c.bs.length) true,.cells [.int .i64 (waP c.rate (fun s=>(strAt l s).lLo) L c.hs.length),.int .i64 (waP c.rate (fun s=>(strAt l s).lHi) L c.hs.length)] true,.cells [.int .i64 (waP c.rate (fun s=>(strAt l s).lLo) O c.hs.length),.int .i64 (waP c.rate (fun s=>(strAt l s).lHi) O c.hs.length)] true,.cells (avL (cP O c.hs.length) c.bs.length) true]
        have hpl2W:=hpl2M [.cells (avL (fun s=>ndF c s c.hs.length) c.bs.length) true,.cells [.int .i64 (waP c.rate (fun s=>(strAt l s).lLo) L c.hs.length),.int .i64 (waP c.rate (fun s=>(strAt l s).lHi) L c.hs.length)] true,.cells [.int .i64 (waP c.rate (fun s=>(strAt l s).lLo) O c.hs.length),.int .i64 (waP c.rate (fun s=>(strAt l s).lHi) O c.hs.length)] true,.cells (avL (cP O c.hs.length) c.bs.length) true]
        have hHW : H.length < List.length (α:=AObj) (M++[.cells (avL (fun s=>ndF c s c.hs.length) c.bs.length) true,.cells [.int .i64 (waP c.rate (fun s=>(strAt l s).lLo) L c.hs.length),.int .i64 (waP c.rate (fun s=>(strAt l s).lHi) L c.hs.length)] true,.cells [.int .i64 (waP c.rate (fun s=>(strAt l s).lLo) O c.hs.length),.int .i64 (waP c.rate (fun s=>(strAt l s).lHi) O c.hs.length)] true,.cells (avL (cP O c.hs.length) c.bs.length) true]):=by simp; omega
        generalize M++[.cells (avL (fun s=>ndF c s c.hs.length) c.bs.length) true,.cells [.int .i64 (waP c.rate (fun s=>(strAt l s).lLo) L c.hs.length),.int .i64 (waP c.rate (fun s=>(strAt l s).lHi) L c.hs.length)] true,.cells [.int .i64 (waP c.rate (fun s=>(strAt l s).lLo) O c.hs.length),.int .i64 (waP c.rate (fun s=>(strAt l s).lHi) O c.hs.length)] true,.cells (avL (cP O c.hs.length) c.bs.length) true]=W at khW hb1W hplW hpl2W hHW ⊢
        obtain ⟨_,_,_,e1,hpidW,hrowW⟩:=hplW.get
        injection e1 with e1 e2 e3 e4 e5
        subst e1 e2 e5
        obtain ⟨_,_,_,e1,hpid2W,hrow2W⟩:=hpl2W.get
        injection e1 with e1 e2 e3 e4 e5
        subst e1 e2 e5
        have hLl2:=okPl_len hc hokp
        refine e_loop (ι:={ h : Nat // h≤c.hs.length∧∀ a e,e < c.bs.length→a < h→inP O a e=inP L a e }) (fun h=>[(2,.ptr H.length 0),(5,.bool true),(8,.slice pid poff c.hs.length 1 pex),(10,.slice pid2 poff2 c.hs.length 1 pex2),(174,.int .i64 c.hs.length),(175,.int .i64 h.1)])
          (fun _=>W) (fun h=>c.hs.length - h.1) ⟨0,by simp⟩ ?_ ?_
        · exact .inl rfl
        · rintro ⟨h,hh,hE⟩
          dsimp only
          by_cases hlt : h < c.hs.length
          rotate_left
          · have hlt2 : ¬ (h : Int) < c.hs.length:=by omega
            repeat (first|(with_reducible first|apply X1|apply X2|apply X3|apply X4|apply X8|apply Y1|apply Y4|apply Y6)|((with_reducible apply e_end);(simp;exact Rz))|((with_reducible apply O1);rfl;(simp (disch:=omega) [hlt,hlt2];exact Rz);exact Rz;(focus (first|(simp;done)|omega|(simp;omega))))|((with_reducible apply W3);(simp (disch:=omega) [hlt,hlt2];exact Rz)))
            exact q_stay (.inr rfl) (by simp; exact Rz) rfl
          have hlt2 : (h : Int) < c.hs.length:=by omega
          obtain ⟨x,hx,hxl⟩:=hrowW h hlt
          obtain ⟨y,hy,hyl⟩:=hrow2W h hlt
          have hxs:=hxl.scal
          have hys:=hyl.scal
          have hxc:=RAt.sc hxl (Nat.le_refl _)
          have hyc:=RAt.sc hyl (Nat.le_refl _)
          repeat (first|(with_reducible first|apply X1|apply X2|apply X5|apply X6|apply X8)|((with_reducible apply e_end);(simp;exact Rz))|((with_reducible apply O1);rfl;(simp (disch:=omega) [hlt,hlt2,hb1W];exact Rz);exact Rz;(focus (first|(simp;done)|omega|(simp;omega))))|((with_reducible apply Z9);(simp (disch:=omega) [hlt,hlt2,hb1W];exact Rz)))
          refine e_loop (ι:={ i : Nat // i≤c.bs.length∧∀ a e,e < c.bs.length→(a < h∨(a=h∧e < i))→inP O a e=inP L a e }) (fun i=>[(2,.ptr H.length 0),(5,.bool true),(8,.slice pid poff c.hs.length 1 pex),(10,.slice pid2 poff2 c.hs.length 1 pex2),(22,.int .i64 h),(174,.int .i64 c.hs.length),(175,.int .i64 h),(180,.int .i64 c.bs.length),(181,.int .i64 i.1)])
            (fun _=>W) (fun i=>c.bs.length - i.1) ⟨0,by omega,fun a e he h0=>hE a e he (by rcases h0 with h0 | ⟨_,h0⟩; exact h0; exact absurd h0 (Nat.not_lt_zero _))⟩ ?_ ?_
          · exact .inl rfl
          · rintro ⟨i,hi,hEi⟩
            dsimp only
            by_cases hil3 : i < c.bs.length
            rotate_left
            · have hil4 : ¬ (i : Int) < c.bs.length:=by omega
              repeat (first|(with_reducible first|apply X1|apply X2|apply X4|apply X8|apply Y1|apply Y2|apply Y4|apply Y6)|((with_reducible apply e_end);(simp;exact Rz))|((with_reducible apply O1);rfl;(simp (disch:=omega) [hil3,hil4];exact Rz);exact Rz;(focus (first|(simp;done)|omega|(simp;omega))))|((with_reducible apply W3);(simp (disch:=omega) [hil3,hil4];exact Rz)))
              exact q_again ⟨h+1,hlt,fun a e he h0=>hEi a e he (by omega)⟩ (by dsimp only; omega) (.inl (by simp))
            have hil4 : (i : Int) < c.bs.length:=by omega
            repeat (first|(with_reducible first|apply X1|apply X2|apply X5|apply X6|apply X8|apply Y9)|((with_reducible apply e_end);(simp;exact Rz))|((first|((with_reducible apply O1);rfl)|((with_reducible apply P1);rfl)|((with_reducible apply P2);rfl));(simp (disch:=omega) [hil3,hil4,hlt,hlt2,hx];exact Rz);exact Rz;(focus (first|(simp;done)|omega|(simp;omega))))|((with_reducible apply Z9);(simp (disch:=omega) [hil3,hil4,hlt,hlt2,hx];exact Rz)))
            (with_reducible apply d_call); (simp; exact Rz); exact khW _ (L h) _ hxl (hLl h hlt) (inP L h i) (by simp [inP]); (focus (first | (simp [hxc]; done) | (simp [hxc]; omega)))
            repeat (first|((with_reducible apply P1);rfl;(simp (disch:=omega) [hil3,hil4,hlt,hlt2,hy];exact Rz);exact Rz;(focus (first|(simp;done)|omega|(simp;omega))))|((with_reducible apply P6);rfl;(simp (disch:=omega) [hil3,hil4,hlt,hlt2,hy];exact Rz);exact Rz;(focus (first|(simp [pr];done)|(simp [pr];omega)))))
            (with_reducible apply d_call); (simp; exact Rz); exact khW _ (O h) _ hyl (hLl2 h hlt) (inP O h i) (by simp [inP]); (focus (first | (simp [hyc]; done) | (simp [hyc]; omega)))
            have hfst:=hb.fst (inP O) hgO h i hlt hil3 (fun a e he h0=>hEi a e he h0)
            cases hpa : inP L h i with
            | true =>
              cases hpb : inP O h i with
              | true =>
                repeat (first|(with_reducible first|apply X1|apply X2|apply X5|apply X8|apply Y2)|((with_reducible first|apply e_end|apply d_end);(simp;exact Rz))|((first|((with_reducible apply O1);rfl)|((with_reducible apply P1);rfl));(simp (disch:=omega);exact Rz);exact Rz;(focus (first|(simp;done)|omega|(simp;omega))))|((with_reducible apply W3);(simp (disch:=omega);exact Rz)))
                refine q_again ⟨i+1,hil3,fun a e he h0=>?_⟩ (by dsimp only; omega) (.inl (by simp))
                by_cases hae : a=h∧e=i
                · rw [hae.1,hae.2,hpa,hpb]
                · exact hEi a e he (by omega)
              | false =>
                repeat (first|(with_reducible first|apply X1|apply X2|apply X3|apply X8|apply X9|apply Y3|apply Y5)|((with_reducible first|apply e_end|apply d_end);(simp;exact Rz))|((first|((with_reducible apply O1);rfl)|((with_reducible apply P1);rfl));(simp (disch:=omega);exact Rz);exact Rz;(focus (first|(simp;done)|omega|(simp;omega))))|((with_reducible first|apply Z7|apply Z9);(simp (disch:=omega);exact Rz)))
                exact q_stay (.inr rfl) (by simp; exact Rz) rfl
            | false =>
              cases hpb : inP O h i with
              | true=>rw [hpa] at hfst; exact absurd (hfst hpb) (by simp)
              | false =>
                repeat (first|(with_reducible first|apply X1|apply X2|apply X5|apply X8|apply Y2)|((with_reducible first|apply e_end|apply d_end);(simp;exact Rz))|((first|((with_reducible apply O1);rfl)|((with_reducible apply P1);rfl));(simp (disch:=omega);exact Rz);exact Rz;(focus (first|(simp;done)|omega|(simp;omega))))|((with_reducible apply W3);(simp (disch:=omega);exact Rz)))
                refine q_again ⟨i+1,hil3,fun a e he h0=>?_⟩ (by dsimp only; omega) (.inl (by simp))
                by_cases hae : a=h∧e=i
                · rw [hae.1,hae.2,hpa,hpb]
                · exact hEi a e he (by omega)
end Go.Proofs
