/- Several texts as one. -/
import Derived.Test.YtbfihdpmphlckaaDD
import Derived.Test.YtbfihdpmphlckaaAc1
/- Ice: covers,truths,and how thick ice is. -/
namespace Go.Proofs
open Go.Abs
attribute [local simp] AOp.den AOpd.ev lk cellsOf rd_new rd_new0 rd_zero rd_succ wr_new wr_new0 wr_zero wr_succ splice fillA binA scal sliceCells List.length_append argsT AV.sc scL AObj.sc resV getAll AR.get AOp.slots opdSlots opdsSlots partSlots eqAt at_new0 at_new set_new0 set_new wrap64
set_option linter.unusedSimpArgs false
set_option linter.unusedVariables false
structure Bd where
  lo : Int
  hi : Int
  sun : Int
structure Hr where
  m1 : Int
  m2 : Int
  runs : Int
  crew : Int
  cold : Bool
def Bd.av (b : Bd) : List AV:=[.int .i64 b.lo,.int .i64 b.hi,.int .i64 b.sun]
def Hr.av (h : Hr) : List AV:=[.int .i64 h.m1,.int .i64 h.m2,.int .i64 h.runs,.int .i64 h.crew,.bool h.cold]
theorem Bd.av_length (b : Bd) : b.av.length=3:=rfl
theorem Hr.av_length (h : Hr) : h.av.length=5:=rfl
def Bd.ok (b : Bd) : Prop:=(b.lo≤b.hi∧0≤b.lo∧b.hi≤2000)∧0≤b.sun∧b.sun≤9
def Hr.ok (h : Hr) : Prop:=(h.m1≤h.m2∧0≤h.m1∧h.m2≤50)∧(0≤h.runs∧h.runs≤60)∧0≤h.crew∧h.crew≤12
structure Cv where
  bs : List Bd
  hs : List Hr
  w1 : Int
  w2 : Int
  y1 : Int
  y2 : Int
  rate : Int
  lim : Int
  base : Int
def Cv.b (c : Cv) (i : Nat) : Bd:=c.bs.getD i ⟨0,0,0⟩
def Cv.h (c : Cv) (i : Nat) : Hr:=c.hs.getD i ⟨0,0,0,0,false⟩
theorem Cv.b_eq {c : Cv} {i : Nat} (h : i < c.bs.length) : c.b i=c.bs[i]:=by
  simp [Cv.b,List.getD_eq_getElem?_getD,List.getElem?_eq_getElem h]
theorem Cv.h_eq {c : Cv} {i : Nat} (h : i < c.hs.length) : c.h i=c.hs[i]:=by
  simp [Cv.h,List.getD_eq_getElem?_getD,List.getElem?_eq_getElem h]
def Cv.ruled (c : Cv) : Prop:=(c.w1≤c.w2∧0≤c.w1∧c.w2≤20)∧(c.y1≤c.y2∧1≤c.y1∧c.y2≤100)∧(0≤c.rate∧c.rate≤100)∧(0≤c.lim∧c.lim≤2000)∧0≤c.base∧c.base≤c.lim
structure Cv.ok (c : Cv) (n : Nat) : Prop where
  len : c.bs.length=n
  hours : 1≤c.hs.length∧c.hs.length≤8
  bok : ∀ i (h : i < c.bs.length),c.bs[i].ok
  hok : ∀ i (h : i < c.hs.length),c.hs[i].ok
  rul : c.ruled
structure Tn where
  thick : Nat→Int
  melt : Nat→Int
  wear : Int
  layer : Int
def endT (w : Bool) (c : Cv) : Tn:=if w then ⟨fun i=>(c.b i).lo,fun i=>(c.h i).m2,c.w2,c.y1⟩ else ⟨fun i=>(c.b i).hi,fun i=>(c.h i).m1,c.w1,c.y2⟩
def lossF (c : Cv) (t : Tn) (s h : Nat) : Int:=(c.b s).sun * t.melt h+(c.h h).runs * t.wear
def befF (c : Cv) (t : Tn) (P : Nat→Nat→Bool) (s : Nat) : Nat→Int
  | 0=>t.thick s
  | h+1=>max 0 (befF c t P s h - lossF c t s h)+if P h s then t.layer else 0
def asks (c : Cv) (h : Nat) : Int:=if 0 < (c.h h).runs then c.lim else c.base
def tooF (c : Cv) (t : Tn) (P : Nat→Nat→Bool) (h s : Nat) : Bool:=decide (befF c t P s h - lossF c t s h < asks c h)
structure Tn.ok (c : Cv) (t : Tn) : Prop where
  thick : ∀ i,i < c.bs.length→(c.b i).lo≤t.thick i∧t.thick i≤(c.b i).hi
  melt : ∀ i,i < c.hs.length→(c.h i).m1≤t.melt i∧t.melt i≤(c.h i).m2
  wear : c.w1≤t.wear∧t.wear≤c.w2
  layer : c.y1≤t.layer∧t.layer≤c.y2
theorem endT_ok {c : Cv} {n : Nat} (hc : c.ok n) (w : Bool) : Tn.ok c (endT w c):=by
  have hr:=hc.rul
  simp only [Cv.ruled] at hr
  cases w <;> simp only [endT,if_true,Bool.false_eq_true,if_false]
  all_goals
    refine ⟨fun i hi=>?_,fun i hi=>?_,?_,?_⟩
    · have:=(hc.bok i hi).1; rw [← Cv.b_eq hi] at this; dsimp only; omega
    · have:=(hc.hok i hi).1; rw [← Cv.h_eq hi] at this; dsimp only; omega
    · dsimp only; omega
    · dsimp only; omega
theorem mul_bd {a b A B : Int} (h1 : 0≤a) (h2 : a≤A) (h3 : 0≤b) (h4 : b≤B) : 0≤a * b∧a * b≤A * B :=
  ⟨Int.mul_nonneg h1 h3,Int.mul_le_mul h2 h4 h3 (by omega)⟩
theorem loss_bd {c : Cv} {n : Nat} (hc : c.ok n) {t : Tn} (ht : Tn.ok c t) {s h : Nat} (hs : s < c.bs.length) (hh : h < c.hs.length) :
    (0≤(c.b s).sun * t.melt h∧(c.b s).sun * t.melt h≤450)∧(0≤(c.h h).runs * t.wear∧(c.h h).runs * t.wear≤1200)∧0≤lossF c t s h∧lossF c t s h≤1650:=by
  have hb:=hc.bok s hs
  have hr:=hc.hok h hh
  rw [← Cv.b_eq hs] at hb
  rw [← Cv.h_eq hh] at hr
  have hm:=ht.melt h hh
  have hw:=ht.wear
  have hru:=hc.rul
  simp only [Cv.ruled] at hru
  simp only [Bd.ok] at hb
  simp only [Hr.ok] at hr
  have m1:=mul_bd (A:=9) (B:=50) hb.2.1 hb.2.2 (show 0≤t.melt h by omega) (show t.melt h≤50 by omega)
  have m2:=mul_bd (A:=60) (B:=20) hr.2.1.1 hr.2.1.2 (show 0≤t.wear by omega) (show t.wear≤20 by omega)
  simp only [lossF]
  omega
theorem bef_bd {c : Cv} {n : Nat} (hc : c.ok n) {t : Tn} (ht : Tn.ok c t) (P : Nat→Nat→Bool) {s : Nat} (hs : s < c.bs.length) : ∀ {h : Nat},h≤c.hs.length→0≤befF c t P s h∧befF c t P s h≤2000+100 * h
  | 0,_=>by
    have hb:=hc.bok s hs
    rw [← Cv.b_eq hs] at hb
    simp only [Bd.ok] at hb
    have:=ht.thick s hs
    simp only [befF]
    omega
  | h+1,hh=>by
    have ih:=bef_bd hc ht P hs (h:=h) (by omega)
    have hl:=loss_bd hc ht hs (show h < c.hs.length by omega)
    have hy:=ht.layer
    have hru:=hc.rul
    simp only [Cv.ruled] at hru
    simp only [befF]
    split <;> omega
theorem asks_bd {c : Cv} {n : Nat} (hc : c.ok n) (h : Nat) : 0≤asks c h∧asks c h≤2000:=by
  have hru:=hc.rul
  simp only [Cv.ruled] at hru
  simp only [asks]
  split <;> omega
structure Tn.le (c : Cv) (t u : Tn) : Prop where
  thick : ∀ i,i < c.bs.length→t.thick i≤u.thick i
  melt : ∀ i,i < c.hs.length→u.melt i≤t.melt i
  wear : u.wear≤t.wear
  layer : t.layer≤u.layer
theorem loss_mono {c : Cv} {n : Nat} (hc : c.ok n) {t u : Tn} (h : Tn.le c t u) {s k : Nat} (hs : s < c.bs.length) (hk : k < c.hs.length) : lossF c u s k≤lossF c t s k:=by
  have hb:=hc.bok s hs
  have hr:=hc.hok k hk
  rw [← Cv.b_eq hs] at hb
  rw [← Cv.h_eq hk] at hr
  simp only [Bd.ok] at hb
  simp only [Hr.ok] at hr
  have m1:=Int.mul_le_mul_of_nonneg_left (h.melt k hk) hb.2.1
  have m2:=Int.mul_le_mul_of_nonneg_left h.wear hr.2.1.1
  simp only [lossF]
  omega
theorem bef_mono {c : Cv} {n : Nat} (hc : c.ok n) {t u : Tn} (h : Tn.le c t u) (P : Nat→Nat→Bool) {s : Nat} (hs : s < c.bs.length) : ∀ {k : Nat},k≤c.hs.length→befF c t P s k≤befF c u P s k
  | 0,_=>h.thick s hs
  | k+1,hk=>by
    have ih:=bef_mono hc h P hs (k:=k) (by omega)
    have hl:=loss_mono hc h hs (show k < c.hs.length by omega)
    have hy:=h.layer
    simp only [befF]
    split <;> omega
theorem too_mono {c : Cv} {n : Nat} (hc : c.ok n) {t u : Tn} (h : Tn.le c t u) (P : Nat→Nat→Bool) {s k : Nat} (hs : s < c.bs.length) (hk : k < c.hs.length) (hu : tooF c u P k s=true) : tooF c t P k s=true:=by
  have h1:=bef_mono hc h P hs (k:=k) (by omega)
  have h2:=loss_mono hc h hs hk
  simp only [tooF,decide_eq_true_eq] at hu ⊢
  omega
theorem worst_le {c : Cv} {t : Tn} (ht : Tn.ok c t) : Tn.le c (endT true c) t:=by
  simp only [endT,if_true]
  exact ⟨fun i hi=>(ht.thick i hi).1,fun i hi=>(ht.melt i hi).2,ht.wear.2,ht.layer.1⟩
def okL (n : Nat) (l : List Int) : Prop:=∀ i (h : i < l.length),(0≤l[i]∧l[i] < n)∧∀ _ : 0 < i,(l[i - 1]'(by omega)) < l[i]
def handsF (c : Cv) (h : Nat) : Int:=if (c.h h).cold=true then (c.h h).crew else 0
def okPl (c : Cv) (L : Nat→List Int) : Prop:=∀ h,h < c.hs.length→((L h).length : Int)≤handsF c h∧okL c.bs.length (L h)
def inP (L : Nat→List Int) (h s : Nat) : Bool:=decide ((s : Int) ∈ L h)
def plnL (c : Cv) (us : List Int) (a : Int) (h : Nat) : Nat→List Int
  | 0=>[]
  | i+1=>if (c.h h).cold=true∧((plnL c us a h i).length : Int) < (c.h h).crew∧0 < chooseF us (a+13 * h+i) % 3 then plnL c us a h i++[(i : Int)] else plnL c us a h i
theorem plnL_lt (c : Cv) (us : List Int) (a : Int) (h : Nat) : ∀ (i : Nat) (x : Int),x ∈ plnL c us a h i→0≤x∧x < i
  | 0,x,hx=>by simp [plnL] at hx
  | i+1,x,hx=>by
    simp only [plnL] at hx
    split at hx
    · rcases List.mem_append.1 hx with hx | hx
      · have:=plnL_lt c us a h i x hx; omega
      · simp at hx; omega
    · have:=plnL_lt c us a h i x hx; omega
theorem okL_snoc {n : Nat} {l : List Int} {x : Int} (h : okL n l) (h0 : 0≤x) (hn : x < n) (hl : ∀ y ∈ l,y < x) : okL n (l++[x]):=by
  intro i hi
  rw [List.length_append,List.length_singleton] at hi
  rcases Nat.lt_or_ge i l.length with h1 | h1
  · rw [List.getElem_append_left h1]
    refine ⟨(h i h1).1,fun h2=>?_⟩
    rw [List.getElem_append_left (by omega)]
    exact (h i h1).2 h2
  · obtain rfl : i=l.length:=by omega
    rw [List.getElem_append_right (by omega)]
    simp only [Nat.sub_self,List.getElem_cons_zero]
    refine ⟨⟨h0,hn⟩,fun h2=>?_⟩
    rw [List.getElem_append_left (by omega)]
    exact hl _ (List.getElem_mem _)
theorem plnL_ok (c : Cv) (us : List Int) (a : Int) (h : Nat) {n : Nat} : ∀ {i : Nat},i≤n→okL n (plnL c us a h i)
  | 0,_=>by intro i hi; simp [plnL] at hi
  | i+1,hi=>by
    have ih:=plnL_ok c us a h (n:=n) (i:=i) (by omega)
    simp only [plnL]
    split
    · exact okL_snoc ih (by omega) (by omega) (fun y hy=>(plnL_lt c us a h i y hy).2)
    · exact ih
theorem plnL_len (c : Cv) (us : List Int) (a : Int) (h : Nat) (hc : 0≤(c.h h).crew) : ∀ (i : Nat),((plnL c us a h i).length : Int)≤handsF c h∧(plnL c us a h i).length≤i
  | 0=>by simp only [plnL,handsF]; split <;> simp <;> omega
  | i+1=>by
    have ih:=plnL_len c us a h hc i
    simp only [plnL]
    split
    · rename_i h1
      simp only [handsF,h1.1,if_true,List.length_append,List.length_singleton]
      omega
    · omega
theorem plnL_okPl {c : Cv} {n : Nat} (hc : c.ok n) (us : List Int) (a : Int) : okPl c (fun h=>plnL c us a h c.bs.length):=by
  intro h hh
  have hr:=hc.hok h hh
  rw [← Cv.h_eq hh] at hr
  exact ⟨(plnL_len c us a h hr.2.2.1 _).1,plnL_ok c us a h (Nat.le_refl _)⟩
def thL (c : Cv) (t : Tn) (P : Nat→Nat→Bool) (h i : Nat) : List Int:=((List.range i).filter (tooF c t P h)).map fun (s : Nat)=>(s : Int)
theorem thL_succ (c : Cv) (t : Tn) (P : Nat→Nat→Bool) (h i : Nat) : thL c t P h (i+1)=if tooF c t P h i=true then thL c t P h i++[(i : Int)] else thL c t P h i:=by
  simp only [thL,List.range_succ,List.filter_append,List.map_append,List.filter_cons,List.filter_nil]
  split <;> simp
theorem thL_mem {c : Cv} {t : Tn} {P : Nat→Nat→Bool} {h i : Nat} {x : Int} : x ∈ thL c t P h i↔∃ s : Nat,s < i∧tooF c t P h s=true∧x=s:=by
  simp only [thL,List.mem_map,List.mem_filter,List.mem_range]
  constructor
  · rintro ⟨s,⟨h1,h2⟩,rfl⟩; exact ⟨s,h1,h2,rfl⟩
  · rintro ⟨s,h1,h2,rfl⟩; exact ⟨s,⟨h1,h2⟩,rfl⟩
theorem thL_len (c : Cv) (t : Tn) (P : Nat→Nat→Bool) (h i : Nat) : (thL c t P h i).length≤i:=by
  have:=List.length_filter_le (tooF c t P h) (List.range i)
  simpa [thL] using this
def thP (c : Cv) (t : Tn) (P : Nat→Nat→Bool) : Nat→List (Int × Int)
  | 0=>[]
  | h+1=>thP c t P h++(thL c t P h c.bs.length).map fun s=>((h : Int),s)
def pv (l : List (Int × Int)) : List AV:=l.flatMap fun p=>[.int .i64 p.1,.int .i64 p.2]
theorem pv_length : ∀ l : List (Int × Int),(pv l).length=l.length * 2
  | []=>rfl
  | p :: l=>by
    have:=pv_length l
    simp only [pv,List.flatMap_cons,List.length_append,List.length_cons,List.length_nil] at this ⊢
    omega
theorem pv_app (l m : List (Int × Int)) : pv (l++m)=pv l++pv m:=by simp [pv]
theorem thP_mem {c : Cv} {t : Tn} {P : Nat→Nat→Bool} {x : Int × Int} : ∀ {H : Nat},x ∈ thP c t P H↔∃ h s : Nat,h < H∧s < c.bs.length∧tooF c t P h s=true∧x=((h : Int),(s : Int))
  | 0=>by simp [thP]
  | H+1=>by
    simp only [thP,List.mem_append,thP_mem (H:=H),List.mem_map,thL_mem]
    constructor
    · rintro (⟨h,s,h1,h2,h3,rfl⟩ | ⟨_,⟨s,h1,h2,rfl⟩,rfl⟩)
      · exact ⟨h,s,by omega,h2,h3,rfl⟩
      · exact ⟨H,s,by omega,h1,h2,rfl⟩
    · rintro ⟨h,s,h1,h2,h3,rfl⟩
      by_cases e : h=H
      · subst e; exact .inr ⟨_,⟨s,h2,h3,rfl⟩,rfl⟩
      · exact .inl ⟨h,s,by omega,h2,h3,rfl⟩
theorem thP_len (c : Cv) (t : Tn) (P : Nat→Nat→Bool) : ∀ H : Nat,(thP c t P H).length≤H * c.bs.length
  | 0=>by simp [thP]
  | H+1=>by
    have:=thP_len c t P H
    have:=thL_len c t P H c.bs.length
    simp only [thP,List.length_append,List.length_map,Nat.add_mul]
    omega
theorem thP_nil {c : Cv} {t : Tn} {P : Nat→Nat→Bool} {H : Nat} : thP c t P H=[]↔∀ h s : Nat,h < H→s < c.bs.length→tooF c t P h s=false:=by
  rw [List.eq_nil_iff_forall_not_mem]
  constructor
  · intro h k s hk hs
    cases e : tooF c t P k s
    · rfl
    · exact absurd (thP_mem.2 ⟨k,s,hk,hs,e,rfl⟩) (h _)
  · rintro h x hx
    obtain ⟨k,s,h1,h2,h3,rfl⟩:=thP_mem.1 hx
    rw [h k s h1 h2] at h3; cases h3
theorem c_fits' (H : Heap) (a c lo hi : Int) {b : Bool} (hb : b=true↔a≤c∧lo≤a∧c≤hi) : ACalls Try.prog F.qcx [.agg [.int .i64 a,.int .i64 c],.agg [.int .i64 lo,.int .i64 hi]] H (fun v h'=>v=.bool b∧h'=H):=by
  have : b=decide (a≤c∧lo≤a∧c≤hi):=by rw [Bool.eq_iff_iff,hb]; simp
  subst this
  exact c_fits H a c lo hi
theorem c_within1 (H : Heap) (lo hi x : Int) (id off : Nat) (ex : Bool) {b : Bool} (hb : b=true↔lo≤x∧x≤hi) (hs : rd H id off 1=some [.int .i64 x]) :
    ACalls Try.prog F.qdd [.agg [.int .i64 lo,.int .i64 hi],.slice id off 1 1 ex] H (fun v h'=>v=.bool b∧h'=H):=by
  have : b=([x].all fun x=>decide (lo≤x∧x≤hi)):=by rw [Bool.eq_iff_iff,hb]; simp
  subst this
  exact c_within H lo hi [x] id off ex (by simpa using hs) (by simp)
def Cv.cs (c : Cv) : List AV:=[.int .i64 c.w1,.int .i64 c.w2,.int .i64 c.y1,.int .i64 c.y2,.int .i64 c.rate,.int .i64 c.lim,.int .i64 c.base]
structure Plc where
  tid : Nat
  toff : Nat
  tex : Bool
  tn : Nat
  bid : Nat
  boff : Nat
  bex : Bool
  hid : Nat
  hoff : Nat
  hex : Bool
def Cv.av (c : Cv) (p : Plc) : List AV:=[.slice p.tid p.toff p.tn 9 p.tex,.slice p.bid p.boff c.bs.length 3 p.bex,.slice p.hid p.hoff c.hs.length 5 p.hex,.int .i64 c.w1,.int .i64 c.w2,.int .i64 c.y1,.int .i64 c.y2,.int .i64 c.rate,.int .i64 c.lim,.int .i64 c.base]
structure CvAt (H : Heap) (c : Cv) (p : Plc) : Prop where
  t : p.tid < H.length
  b : rd H p.bid p.boff (c.bs.length * 3)=some (c.bs.flatMap Bd.av)
  h : rd H p.hid p.hoff (c.hs.length * 5)=some (c.hs.flatMap Hr.av)
theorem CvAt.app {H : Heap} {c : Cv} {p : Plc} (h : CvAt H c p) (G : Heap) : CvAt (H++G) c p :=
  ⟨by have:=h.t; simp; omega,by rw [rd_old _ (rd_lt h.b)]; exact h.b,by rw [rd_old _ (rd_lt h.h)]; exact h.h⟩
theorem c_ruled (H : Heap) (c : Cv) (p : Plc) (hp : CvAt H c p) {b : Bool} (hb : b=true↔c.ruled) : ACalls Try.prog F.qbh [.agg (c.av p)] H (fun v h'=>v=.bool b∧h'=H):=by
  have hp1:=hp.t
  have hp2:=rd_lt hp.b
  have hp3:=rd_lt hp.h
  obtain ⟨bs,hs,w1,w2,y1,y2,rate,lim,base⟩:=c
  simp only [Cv.av,Cv.ruled] at hb ⊢
  refine acalls_of ok_qbh rfl fun hcl=>?_
  unfold ac_qbh zo
  simp only [argsT,Nat.zero_add,Nat.reduceAdd]
  obtain ⟨b1,h1⟩:=bof (w1≤w2∧0≤w1∧w2≤20)
  obtain ⟨b2,h2⟩:=bof (y1≤y2∧1≤y1∧y2≤100)
  obtain ⟨b3,h3⟩:=bof (0≤rate∧rate≤100)
  obtain ⟨b4,h4⟩:=bof (0≤lim∧lim≤2000)
  obtain ⟨b5,h5⟩:=bof (0≤base∧base≤lim)
  repeat (first|(with_reducible first|apply X1|apply X2|apply X8|apply Y9)|((with_reducible apply e_end);(simp;exact Rz))|((first|((with_reducible apply O1);rfl)|((with_reducible apply P1);rfl)|((with_reducible apply P2);rfl));(simp (disch:=omega);exact Rz);exact Rz;(focus (first|(simp;done)|omega|(simp;omega)))))
  (with_reducible apply d_call); (simp; exact Rz); exact c_upto _ _; (focus (first | (simp; done) | (simp; omega)))
  skip
  (with_reducible apply d_call); (simp; exact Rz); exact c_fits' _ _ _ _ _ h1; (focus (first | (simp; done) | (simp; omega)))
  cases b1 with
  | false =>
    repeat (first|(with_reducible first|apply X3|apply X8)|((with_reducible apply d_end);(simp;exact Rz))|((with_reducible apply P1);rfl;(simp (disch:=omega);exact Rz);exact Rz;(focus (first|(simp;done)|omega|(simp;omega))))|((with_reducible apply Z5);(simp (disch:=omega);exact Rz)))
    refine q_drop (.inr rfl) (by simp; exact Rz) (by simp) ⟨by rw [AV.bool.injEq]; cases b; rfl; (exfalso; have:=hb.1 rfl; simp at h1; omega),rfl⟩
  | true =>
    repeat (first|((first|((with_reducible apply P1);rfl)|((with_reducible apply P2);rfl));(simp (disch:=omega);exact Rz);exact Rz;(focus (first|(simp;done)|omega|(simp;omega))))|((with_reducible apply Z8);(simp (disch:=omega);exact Rz)))
    (with_reducible apply d_call); (simp; exact Rz); exact c_fits' _ _ _ _ _ h2; (focus (first | (simp; done) | (simp; omega)))
    cases b2 with
    | false =>
      repeat (first|(with_reducible first|apply X3|apply X8)|((with_reducible apply d_end);(simp;exact Rz))|((with_reducible apply P1);rfl;(simp (disch:=omega);exact Rz);exact Rz;(focus (first|(simp;done)|omega|(simp;omega))))|((with_reducible apply Z5);(simp (disch:=omega);exact Rz)))
      refine q_drop (.inr rfl) (by simp; exact Rz) (by simp) ⟨by rw [AV.bool.injEq]; cases b; rfl; (exfalso; have:=hb.1 rfl; simp at h2; omega),rfl⟩
    | true =>
      repeat (first|((with_reducible apply P1);rfl;(simp (disch:=omega);exact Rz);exact Rz;(focus (first|(simp;done)|omega|(simp;omega))))|((with_reducible apply Z8);(simp (disch:=omega);exact Rz)))
      (with_reducible apply d_call); (simp; exact Rz); exact c_upto _ _; (focus (first | (simp; done) | (simp; omega)))
      repeat (first|((first|((with_reducible apply P1);rfl)|((with_reducible apply P3);rfl));(simp (disch:=omega);exact Rz);exact Rz;(focus (first|(simp;done)|omega|(simp;omega))))|((with_reducible apply Z8);(simp (disch:=omega);exact Rz))|((with_reducible apply P6);rfl;(simp (disch:=omega);exact Rz);exact Rz;(focus (first|(simp [pr];done)|(simp [pr];omega)))))
      (with_reducible apply d_call); (simp; exact Rz); exact c_within1 _ _ _ _ _ _ _ h3 (by simp); (focus (first | (simp; done) | (simp; omega)))
      cases b3 with
      | false =>
        repeat (first|(with_reducible first|apply X3|apply X8)|((with_reducible apply d_end);(simp;exact Rz))|((with_reducible apply P1);rfl;(simp (disch:=omega);exact Rz);exact Rz;(focus (first|(simp;done)|omega|(simp;omega))))|((with_reducible apply Z5);(simp (disch:=omega);exact Rz)))
        refine q_drop (.inr rfl) (by simp; exact Rz) (by simp) ⟨by rw [AV.bool.injEq]; cases b; rfl; (exfalso; have:=hb.1 rfl; simp at h3; omega),rfl⟩
      | true =>
        repeat (first|((with_reducible apply P1);rfl;(simp (disch:=omega);exact Rz);exact Rz;(focus (first|(simp;done)|omega|(simp;omega))))|((with_reducible apply Z8);(simp (disch:=omega);exact Rz)))
        (with_reducible apply d_call); (simp; exact Rz); exact c_upto _ _; (focus (first | (simp; done) | (simp; omega)))
        repeat (first|((first|((with_reducible apply P1);rfl)|((with_reducible apply P3);rfl));(simp (disch:=omega);exact Rz);exact Rz;(focus (first|(simp;done)|omega|(simp;omega))))|((with_reducible apply Z8);(simp (disch:=omega);exact Rz))|((with_reducible apply P6);rfl;(simp (disch:=omega);exact Rz);exact Rz;(focus (first|(simp [pr];done)|(simp [pr];omega)))))
        (with_reducible apply d_call); (simp; exact Rz); exact c_within1 _ _ _ _ _ _ _ h4 (by simp); (focus (first | (simp; done) | (simp; omega)))
        cases b4 with
        | false =>
          repeat (first|(with_reducible first|apply X3|apply X8)|((with_reducible apply d_end);(simp;exact Rz))|((with_reducible apply P1);rfl;(simp (disch:=omega);exact Rz);exact Rz;(focus (first|(simp;done)|omega|(simp;omega))))|((with_reducible apply Z5);(simp (disch:=omega);exact Rz)))
          refine q_drop (.inr rfl) (by simp; exact Rz) (by simp) ⟨by rw [AV.bool.injEq]; cases b; rfl; (exfalso; have:=hb.1 rfl; simp at h4; omega),rfl⟩
        | true =>
          repeat (first|((first|((with_reducible apply P1);rfl)|((with_reducible apply P2);rfl));(simp (disch:=omega);exact Rz);exact Rz;(focus (first|(simp;done)|omega|(simp;omega))))|((with_reducible apply Z8);(simp (disch:=omega);exact Rz)))
          (with_reducible apply d_call); (simp; exact Rz); exact c_upto _ _; (focus (first | (simp; done) | (simp; omega)))
          repeat (first|((first|((with_reducible apply P1);rfl)|((with_reducible apply P3);rfl));(simp (disch:=omega);exact Rz);exact Rz;(focus (first|(simp;done)|omega|(simp;omega))))|((with_reducible apply Z8);(simp (disch:=omega);exact Rz))|((with_reducible apply P6);rfl;(simp (disch:=omega);exact Rz);exact Rz;(focus (first|(simp [pr];done)|(simp [pr];omega)))))
          (with_reducible apply d_call); (simp; exact Rz); exact c_within1 _ _ _ _ _ _ _ h5 (by simp); (focus (first | (simp; done) | (simp; omega)))
          repeat (first|(with_reducible first|apply X3|apply X8)|((with_reducible apply d_end);(simp;exact Rz))|((with_reducible apply P1);rfl;(simp (disch:=omega);exact Rz);exact Rz;(focus (first|(simp;done)|omega|(simp;omega)))))
          refine q_drop (.inr rfl) (by simp; exact Rz) (by simp) ⟨by rw [AV.bool.injEq,Bool.eq_iff_iff,h5,hb]; simp at h1 h2 h3 h4; omega,rfl⟩
theorem c_bedded (H : Heap) (c : Cv) (p : Plc) (hp : CvAt H c p) (hn : (c.bs.length : Int) < 1000000) (hn2 : (p.tn : Int) < 1000000) {b : Bool} (hb : b=true↔c.bs.length=p.tn∧∀ i (h : i < c.bs.length),c.bs[i].ok) : ACalls Try.prog F.qai [.agg (c.av p)] H (fun v h'=>v=.bool b∧h'=H):=by
  have hp1:=hp.t
  have hp2:=rd_lt hp.b
  have hp3:=rd_lt hp.h
  have hr:=hp.b
  obtain ⟨tid,toff,tex,tn,bid,boff,bex,hid,hoff,hex⟩:=p
  simp only [Cv.av] at *
  refine acalls_of ok_qai rfl fun hcl=>?_
  unfold ac_qai zo
  simp only [argsT,Nat.zero_add,Nat.reduceAdd]
  by_cases hl : c.bs.length=tn
  rotate_left
  · have hl2 : ¬ (c.bs.length : Int)=tn:=by omega
    repeat (first|(with_reducible first|apply X1|apply X2|apply X3|apply X8|apply X9)|((with_reducible apply e_end);(simp;exact Rz))|((with_reducible apply O1);rfl;(simp (disch:=omega) [hl,hl2];exact Rz);exact Rz;(focus (first|(simp;done)|omega|(simp;omega))))|((with_reducible apply Z9);(simp (disch:=omega) [hl,hl2];exact Rz)))
    refine q_drop (.inr rfl) (by simp; exact Rz) (by simp) ⟨by rw [AV.bool.injEq]; cases b; rfl; exact absurd (hb.1 rfl).1 hl,rfl⟩
  · subst hl
    repeat (first|(with_reducible first|apply X1|apply X2|apply X5|apply X6|apply X8)|((with_reducible apply e_end);(simp;exact Rz))|((with_reducible apply O1);rfl;(simp (disch:=omega);exact Rz);exact Rz;(focus (first|(simp;done)|omega|(simp;omega))))|((with_reducible apply W3);(simp (disch:=omega);exact Rz)))
    refine e_loop (ι:={ i : Nat // i≤c.bs.length∧∀ j (hj : j < c.bs.length),j < i→c.bs[j].ok })
      (fun i=>[(14,.slice bid boff c.bs.length 3 bex),(15,.int .i64 c.bs.length),(16,.int .i64 i.1)]) (fun _=>H) (fun i=>c.bs.length - i.1) ⟨0,by simp⟩ ?_ ?_
    · exact .inr <| le_drop (by simp [hp2])
    · rintro ⟨i,hi1,hi2⟩
      dsimp only
      by_cases hlt : i < c.bs.length
      · have hlt2 : (i : Int) < c.bs.length:=by omega
        have hx:=rd_row Bd.av_length hr hlt
        generalize hsi : c.bs[i]=s at hx
        obtain ⟨a1,a2,a3⟩:=s
        simp only [Bd.av] at hx
        obtain ⟨b1,h1⟩:=bof (a1≤a2∧0≤a1∧a2≤2000)
        obtain ⟨b2,h2⟩:=bof (0≤a3∧a3≤9)
        have no : ¬ Bd.ok ⟨a1,a2,a3⟩→AV.bool false=AV.bool b:=fun h=>by
          rw [AV.bool.injEq]; cases b; rfl
          have:=(hb.1 rfl).2 i hlt
          rw [hsi] at this; exact absurd this h
        repeat (first|(with_reducible first|apply X1|apply X2|apply X5|apply X6|apply X8|apply Y9)|((with_reducible apply e_end);(simp;exact Rz))|((first|((with_reducible apply O1);rfl)|((with_reducible apply O2);rfl)|((with_reducible apply P1);rfl)|((with_reducible apply P2);rfl));(simp (disch:=omega) [hlt,hlt2,rd_old _ hp2,hx];exact Rz);exact Rz;(focus (first|(simp;done)|omega|(simp;omega))))|((with_reducible apply Z9);(simp (disch:=omega) [hlt,hlt2,rd_old _ hp2,hx];exact Rz)))
        (with_reducible apply d_call); (simp; exact Rz); exact c_upto _ _; (focus (first | (simp; done) | (simp; omega)))
        skip
        (with_reducible apply d_call); (simp; exact Rz); exact c_fits' _ _ _ _ _ h1; (focus (first | (simp; done) | (simp; omega)))
        cases b1 with
        | false =>
          repeat (first|(with_reducible first|apply X1|apply X2|apply X3|apply X8|apply X9|apply Y3|apply Y5)|((with_reducible first|apply e_end|apply d_end);(simp;exact Rz))|((first|((with_reducible apply O1);rfl)|((with_reducible apply P1);rfl));(simp (disch:=omega);exact Rz);exact Rz;(focus (first|(simp;done)|omega|(simp;omega))))|((with_reducible apply Z9);(simp (disch:=omega);exact Rz))|((with_reducible apply Z6);(simp (disch:=omega);exact Rz)))
          refine q_drop (.inr rfl) (by simp; exact Rz) (by simp) ⟨no (fun h=>by have:=h1.2 h.1; cases this),rfl⟩
        | true =>
          repeat (first|((with_reducible apply P1);rfl;(simp (disch:=omega);exact Rz);exact Rz;(focus (first|(simp;done)|omega|(simp;omega))))|((with_reducible apply Z8);(simp (disch:=omega);exact Rz)))
          (with_reducible apply d_call); (simp; exact Rz); exact c_upto _ _; (focus (first | (simp; done) | (simp; omega)))
          repeat (first|((first|((with_reducible apply P1);rfl)|((with_reducible apply P3);rfl));(simp (disch:=omega);exact Rz);exact Rz;(focus (first|(simp;done)|omega|(simp;omega))))|((with_reducible apply Z8);(simp (disch:=omega);exact Rz))|((with_reducible apply P6);rfl;(simp (disch:=omega);exact Rz);exact Rz;(focus (first|(simp [pr];done)|(simp [pr];omega)))))
          (with_reducible apply d_call); (simp; exact Rz); exact c_within1 _ _ _ _ _ _ _ h2 (by simp); (focus (first | (simp; done) | (simp; omega)))
          cases b2 with
          | false =>
            repeat (first|(with_reducible first|apply X1|apply X2|apply X3|apply X8|apply X9|apply Y3|apply Y5)|((with_reducible first|apply e_end|apply d_end);(simp;exact Rz))|((first|((with_reducible apply O1);rfl)|((with_reducible apply P1);rfl));(simp (disch:=omega);exact Rz);exact Rz;(focus (first|(simp;done)|omega|(simp;omega))))|((with_reducible first|apply Z8|apply Z9);(simp (disch:=omega);exact Rz)))
            refine q_drop (.inr rfl) (by simp; exact Rz) (by simp) ⟨no (fun h=>by have:=h2.2 h.2; cases this),rfl⟩
          | true =>
            repeat (first|(with_reducible first|apply X2|apply X5|apply X8|apply Y2)|((with_reducible first|apply e_end|apply d_end);(simp;exact Rz))|((first|((with_reducible apply O1);rfl)|((with_reducible apply P1);rfl));(simp (disch:=omega);exact Rz);exact Rz;(focus (first|(simp;done)|omega|(simp;omega))))|((with_reducible apply Z8);(simp (disch:=omega);exact Rz))|((with_reducible apply W3);(simp (disch:=omega);exact Rz)))
            refine q_again ⟨i+1,hlt,?_⟩ (by dsimp only; omega) (.inr (le_drop (by simp [hp2])))
            intro j hj hji
            rcases Nat.lt_or_ge j i with h | h
            · exact hi2 j hj h
            · obtain rfl : j=i:=by omega
              rw [hsi]; exact ⟨h1.1 rfl,h2.1 rfl⟩
      · have hlt2 : ¬ (i : Int) < c.bs.length:=by omega
        repeat (first|(with_reducible first|apply X1|apply X2|apply X3|apply X4|apply X8|apply Y1|apply Y4|apply Y6)|((with_reducible apply e_end);(simp;exact Rz))|((with_reducible apply O1);rfl;(simp (disch:=omega) [hlt2];exact Rz);exact Rz;(focus (first|(simp;done)|omega|(simp;omega))))|((with_reducible apply W3);(simp (disch:=omega) [hlt2];exact Rz)))
        refine q_drop0 (.inr rfl) (by simp; exact Rz) (by simp) ⟨by rw [AV.bool.injEq]; exact (hb.2 ⟨rfl,fun j hj=>hi2 j hj (by omega)⟩).symm,rfl⟩
theorem c_timed (H : Heap) (c : Cv) (p : Plc) (hp : CvAt H c p) (hn : (c.hs.length : Int) < 1000000) {b : Bool} (hb : b=true↔(1≤c.hs.length∧c.hs.length≤8)∧∀ i (h : i < c.hs.length),c.hs[i].ok) : ACalls Try.prog F.qbn [.slice p.hid p.hoff c.hs.length 5 p.hex] H (fun v h'=>v=.bool b∧h'=H):=by
  have hp3:=rd_lt hp.h
  have hr:=hp.h
  refine acalls_of ok_qbn rfl fun hcl=>?_
  unfold ac_qbn zo
  simp only [argsT,Nat.zero_add,Nat.reduceAdd]
  obtain ⟨b1,h1⟩:=bof (1≤(c.hs.length : Int)∧(c.hs.length : Int)≤8)
  repeat (first|(with_reducible first|apply X1|apply X2|apply X8)|((with_reducible apply e_end);(simp;exact Rz))|((with_reducible apply O1);rfl;(simp (disch:=omega);exact Rz);exact Rz;(focus (first|(simp;done)|omega|(simp;omega)))))
  (with_reducible apply e_call); (simp; exact Rz); exact c_within1 _ _ _ _ _ _ _ h1 (by simp)
  rintro _ _ ⟨rfl,rfl⟩
  cases b1 with
  | false =>
    repeat (first|(with_reducible first|apply X1|apply X2|apply X3|apply X8|apply X9)|((with_reducible apply e_end);(simp;exact Rz))|((with_reducible apply O1);rfl;(simp (disch:=omega);exact Rz);exact Rz;(focus (first|(simp;done)|omega|(simp;omega))))|((with_reducible apply Z9);(simp (disch:=omega);exact Rz)))
    refine q_drop (.inr rfl) (by simp; exact Rz) (by simp) ⟨by rw [AV.bool.injEq]; cases b; rfl; (exfalso; have:=(hb.1 rfl).1; simp at h1; omega),rfl⟩
  | true =>
    repeat (first|(with_reducible first|apply X1|apply X2|apply X5|apply X6|apply X8)|((with_reducible apply e_end);(simp;exact Rz))|((with_reducible apply O1);rfl;(simp (disch:=omega);exact Rz);exact Rz;(focus (first|(simp;done)|omega|(simp;omega))))|((with_reducible apply W3);(simp (disch:=omega);exact Rz)))
    refine e_loop (ι:={ i : Nat // i≤c.hs.length∧∀ j (hj : j < c.hs.length),j < i→c.hs[j].ok })
      (fun i=>[(11,.slice p.hid p.hoff c.hs.length 5 p.hex),(12,.int .i64 c.hs.length),(13,.int .i64 i.1)]) (fun _=>H) (fun i=>c.hs.length - i.1) ⟨0,by simp⟩ ?_ ?_
    · exact .inr <| le_drop (by simp [hp3])
    · rintro ⟨i,hi1,hi2⟩
      dsimp only
      by_cases hlt : i < c.hs.length
      · have hlt2 : (i : Int) < c.hs.length:=by omega
        have hx:=rd_row Hr.av_length hr hlt
        generalize hsi : c.hs[i]=s at hx
        obtain ⟨a1,a2,a3,a4,a5⟩:=s
        simp only [Hr.av] at hx
        obtain ⟨b2,h2⟩:=bof (a1≤a2∧0≤a1∧a2≤50)
        obtain ⟨b3,h3⟩:=bof (0≤a3∧a3≤60)
        obtain ⟨b4,h4⟩:=bof (0≤a4∧a4≤12)
        have no : ¬ Hr.ok ⟨a1,a2,a3,a4,a5⟩→AV.bool false=AV.bool b:=fun h=>by
          rw [AV.bool.injEq]; cases b; rfl
          have:=(hb.1 rfl).2 i hlt
          rw [hsi] at this; exact absurd this h
        repeat (first|(with_reducible first|apply X1|apply X2|apply X5|apply X6|apply X8|apply Y9)|((with_reducible apply e_end);(simp;exact Rz))|((first|((with_reducible apply O1);rfl)|((with_reducible apply O2);rfl)|((with_reducible apply P1);rfl)|((with_reducible apply P2);rfl));(simp (disch:=omega) [hlt,hlt2,rd_old _ hp3,hx];exact Rz);exact Rz;(focus (first|(simp;done)|omega|(simp;omega))))|((with_reducible apply Z9);(simp (disch:=omega) [hlt,hlt2,rd_old _ hp3,hx];exact Rz)))
        (with_reducible apply d_call); (simp; exact Rz); exact c_upto _ _; (focus (first | (simp; done) | (simp; omega)))
        skip
        (with_reducible apply d_call); (simp; exact Rz); exact c_fits' _ _ _ _ _ h2; (focus (first | (simp; done) | (simp; omega)))
        cases b2 with
        | false =>
          repeat (first|(with_reducible first|apply X1|apply X2|apply X3|apply X8|apply X9|apply Y3|apply Y5)|((with_reducible first|apply e_end|apply d_end);(simp;exact Rz))|((first|((with_reducible apply O1);rfl)|((with_reducible apply P1);rfl));(simp (disch:=omega);exact Rz);exact Rz;(focus (first|(simp;done)|omega|(simp;omega))))|((with_reducible apply Z9);(simp (disch:=omega);exact Rz)))
          refine q_drop (.inr rfl) (by simp; exact Rz) (by simp) ⟨no (fun h=>by have:=h2.2 h.1; cases this),rfl⟩
        | true =>
          repeat (first|(with_reducible first|apply X1|apply X5|apply X8|apply Y9)|((with_reducible apply d_end);(simp;exact Rz))|((with_reducible apply P1);rfl;(simp (disch:=omega);exact Rz);exact Rz;(focus (first|(simp;done)|omega|(simp;omega))))|((with_reducible apply W3);(simp (disch:=omega);exact Rz)))
          (with_reducible apply d_call); (simp; exact Rz); exact c_upto _ _; (focus (first | (simp; done) | (simp; omega)))
          repeat (first|((first|((with_reducible apply P1);rfl)|((with_reducible apply P3);rfl));(simp (disch:=omega);exact Rz);exact Rz;(focus (first|(simp;done)|omega|(simp;omega))))|((with_reducible apply P6);rfl;(simp (disch:=omega);exact Rz);exact Rz;(focus (first|(simp [pr];done)|(simp [pr];omega)))))
          (with_reducible apply d_call); (simp; exact Rz); exact c_within1 _ _ _ _ _ _ _ h3 (by simp); (focus (first | (simp; done) | (simp; omega)))
          cases b3 with
          | false =>
            repeat (first|(with_reducible first|apply X1|apply X2|apply X3|apply X8|apply X9|apply Y3|apply Y5)|((with_reducible first|apply e_end|apply d_end);(simp;exact Rz))|((first|((with_reducible apply O1);rfl)|((with_reducible apply P1);rfl));(simp (disch:=omega);exact Rz);exact Rz;(focus (first|(simp;done)|omega|(simp;omega))))|((with_reducible apply Z9);(simp (disch:=omega);exact Rz))|((with_reducible apply Z6);(simp (disch:=omega);exact Rz)))
            refine q_drop (.inr rfl) (by simp; exact Rz) (by simp) ⟨no (fun h=>by have:=h3.2 h.2.1; cases this),rfl⟩
          | true =>
            repeat (first|((with_reducible apply P1);rfl;(simp (disch:=omega);exact Rz);exact Rz;(focus (first|(simp;done)|omega|(simp;omega))))|((with_reducible apply Z8);(simp (disch:=omega);exact Rz)))
            (with_reducible apply d_call); (simp; exact Rz); exact c_upto _ _; (focus (first | (simp; done) | (simp; omega)))
            repeat (first|((first|((with_reducible apply P1);rfl)|((with_reducible apply P3);rfl));(simp (disch:=omega);exact Rz);exact Rz;(focus (first|(simp;done)|omega|(simp;omega))))|((with_reducible apply Z8);(simp (disch:=omega);exact Rz))|((with_reducible apply P6);rfl;(simp (disch:=omega);exact Rz);exact Rz;(focus (first|(simp [pr];done)|(simp [pr];omega)))))
            (with_reducible apply d_call); (simp; exact Rz); exact c_within1 _ _ _ _ _ _ _ h4 (by simp); (focus (first | (simp; done) | (simp; omega)))
            cases b4 with
            | false =>
              repeat (first|(with_reducible first|apply X1|apply X2|apply X3|apply X8|apply X9|apply Y3|apply Y5)|((with_reducible first|apply e_end|apply d_end);(simp;exact Rz))|((first|((with_reducible apply O1);rfl)|((with_reducible apply P1);rfl));(simp (disch:=omega);exact Rz);exact Rz;(focus (first|(simp;done)|omega|(simp;omega))))|((with_reducible first|apply Z8|apply Z9);(simp (disch:=omega);exact Rz)))
              refine q_drop (.inr rfl) (by simp; exact Rz) (by simp) ⟨no (fun h=>by have:=h4.2 h.2.2; cases this),rfl⟩
            | true =>
              repeat (first|(with_reducible first|apply X2|apply X5|apply X8|apply Y2)|((with_reducible first|apply e_end|apply d_end);(simp;exact Rz))|((first|((with_reducible apply O1);rfl)|((with_reducible apply P1);rfl));(simp (disch:=omega);exact Rz);exact Rz;(focus (first|(simp;done)|omega|(simp;omega))))|((with_reducible apply Z8);(simp (disch:=omega);exact Rz))|((with_reducible apply W3);(simp (disch:=omega);exact Rz)))
              refine q_again ⟨i+1,hlt,?_⟩ (by dsimp only; omega) (.inr (le_drop (by simp [hp3])))
              intro j hj hji
              rcases Nat.lt_or_ge j i with h | h
              · exact hi2 j hj h
              · obtain rfl : j=i:=by omega
                rw [hsi]; exact ⟨h2.1 rfl,h3.1 rfl,h4.1 rfl⟩
      · have hlt2 : ¬ (i : Int) < c.hs.length:=by omega
        repeat (first|(with_reducible first|apply X1|apply X2|apply X3|apply X4|apply X8|apply Y1|apply Y4|apply Y6)|((with_reducible apply e_end);(simp;exact Rz))|((with_reducible apply O1);rfl;(simp (disch:=omega) [hlt2];exact Rz);exact Rz;(focus (first|(simp;done)|omega|(simp;omega))))|((with_reducible apply W3);(simp (disch:=omega) [hlt2];exact Rz)))
        refine q_drop0 (.inr rfl) (by simp; exact Rz) (by simp) ⟨by rw [AV.bool.injEq]; exact (hb.2 ⟨by have:=h1.1 rfl; omega,fun j hj=>hi2 j hj (by omega)⟩).symm,rfl⟩
structure TrAt (H : Heap) (l : List Str) (p : Plc) : Prop where
  n : p.tn=l.length
  t : rd H p.tid p.toff (l.length * 9)=some (l.flatMap Str.av)
theorem TrAt.app {H : Heap} {l : List Str} {p : Plc} (h : TrAt H l p) (G : Heap) : TrAt (H++G) l p:=⟨h.n,by rw [rd_old _ (rd_lt h.t)]; exact h.t⟩
def chkE (l : List Str) (c : Cv) (e : Int) : Prop:=(validL l∧c.ok l.length∧e=0)∨(¬ validL l∧e=10)∨(validL l∧¬ c.ok l.length∧e=20)
theorem c_iCheck (H : Heap) (l : List Str) (c : Cv) (p : Plc) (hp : CvAt H c p) (ht : TrAt H l p) (hn : (l.length : Int) < 1000000) (hn1 : (c.bs.length : Int) < 1000000) (hn2 : (c.hs.length : Int) < 1000000) :
    ACalls Try.prog F.qac [.agg (c.av p)] H (fun v h'=>h'=H∧∃ e : Int,v=.int .i64 e∧chkE l c e):=by
  obtain ⟨b1,h1⟩:=bof (c.bs.length=p.tn∧∀ i (h : i < c.bs.length),c.bs[i].ok)
  obtain ⟨b2,h2⟩:=bof ((1≤c.hs.length∧c.hs.length≤8)∧∀ i (h : i < c.hs.length),c.hs[i].ok)
  obtain ⟨b3,h3⟩:=bof c.ruled
  have k0:=fun G=>c_Check (H++G) l p.tid p.toff p.tex (by rw [rd_old _ (rd_lt ht.t)]; exact ht.t) hn
  have k1:=fun G=>c_bedded (H++G) c p (hp.app G) hn1 (by rw [ht.n]; exact hn) h1
  have k2:=fun G=>c_timed (H++G) c p (hp.app G) hn2 h2
  have k3:=fun G=>c_ruled (H++G) c p (hp.app G) h3
  have hp1:=hp.t
  have hp2:=rd_lt hp.b
  have hp3:=rd_lt hp.h
  simp only [Cv.av] at *
  have htn:=ht.n
  rw [← htn] at k0 
  refine acalls_of ok_qac rfl fun hcl=>?_
  unfold ac_qac zo
  simp only [argsT,Nat.zero_add,Nat.reduceAdd]
  repeat (first|(with_reducible first|apply X1|apply X2|apply X8)|((with_reducible apply e_end);(simp;exact Rz))|((with_reducible apply O1);rfl;(simp (disch:=omega);exact Rz);exact Rz;(focus (first|(simp;done)|omega|(simp;omega)))))
  (with_reducible apply e_call); (simp; exact Rz); exact k0 _
  rintro _ _ ⟨rfl,e,rfl,hv | ⟨hv,rfl⟩⟩
  rotate_left
  · repeat (first|(with_reducible first|apply X1|apply X2|apply X3|apply X8|apply X9)|((with_reducible apply e_end);(simp;exact Rz))|((with_reducible apply O1);rfl;(simp (disch:=omega);exact Rz);exact Rz;(focus (first|(simp;done)|omega|(simp;omega))))|((with_reducible apply Z9);(simp (disch:=omega);exact Rz)))
    refine q_drop (.inr rfl) (by simp; exact Rz) (by simp) ⟨rfl,10,rfl,.inr (.inl ⟨hv,rfl⟩)⟩
  · obtain ⟨hv,rfl⟩:=hv
    have no : (¬ c.ok l.length)→chkE l c 20:=fun h=>.inr (.inr ⟨hv,h,rfl⟩)
    repeat (first|(with_reducible first|apply X1|apply X2|apply X5|apply X8)|((with_reducible apply e_end);(simp;exact Rz))|((with_reducible apply O1);rfl;(simp (disch:=omega);exact Rz);exact Rz;(focus (first|(simp;done)|omega|(simp;omega))))|((with_reducible apply W3);(simp (disch:=omega);exact Rz)))
    (with_reducible apply e_call); (simp; exact Rz); exact k1 _
    rintro _ _ ⟨rfl,rfl⟩
    cases b1 with
    | false =>
      repeat (first|(with_reducible first|apply X1|apply X2|apply X3|apply X8|apply X9)|((with_reducible apply e_end);(simp;exact Rz))|((with_reducible apply O1);rfl;(simp (disch:=omega);exact Rz);exact Rz;(focus (first|(simp;done)|omega|(simp;omega))))|((with_reducible apply Z9);(simp (disch:=omega);exact Rz))|((with_reducible apply Z2);(simp (disch:=omega);exact Rz)))
      refine q_drop (.inr rfl) (by simp; exact Rz) (by simp) ⟨rfl,20,rfl,no fun h=>by have:=h1.2 ⟨by rw [htn]; exact h.len,h.bok⟩; cases this⟩
    | true =>
      repeat (first|((with_reducible apply O1);rfl;(simp (disch:=omega);exact Rz);exact Rz;(focus (first|(simp;done)|omega|(simp;omega))))|((with_reducible apply Z7);(simp (disch:=omega);exact Rz)))
      (with_reducible apply e_call); (simp; exact Rz); exact k2 _
      rintro _ _ ⟨rfl,rfl⟩
      cases b2 with
      | false =>
        repeat (first|(with_reducible first|apply X1|apply X2|apply X3|apply X8|apply X9)|((with_reducible apply e_end);(simp;exact Rz))|((with_reducible apply O1);rfl;(simp (disch:=omega);exact Rz);exact Rz;(focus (first|(simp;done)|omega|(simp;omega))))|((with_reducible first|apply Z7|apply Z9);(simp (disch:=omega);exact Rz))|((with_reducible apply Z2);(simp (disch:=omega);exact Rz)))
        refine q_drop (.inr rfl) (by simp; exact Rz) (by simp) ⟨rfl,20,rfl,no fun h=>by have:=h2.2 ⟨h.hours,h.hok⟩; cases this⟩
      | true =>
        repeat (first|((with_reducible apply O1);rfl;(simp (disch:=omega);exact Rz);exact Rz;(focus (first|(simp;done)|omega|(simp;omega))))|((with_reducible apply Z7);(simp (disch:=omega);exact Rz)))
        (with_reducible apply e_call); (simp; exact Rz); exact k3 _
        rintro _ _ ⟨rfl,rfl⟩
        cases b3 with
        | false =>
          repeat (first|(with_reducible first|apply X1|apply X2|apply X3|apply X8|apply X9)|((with_reducible apply e_end);(simp;exact Rz))|((with_reducible apply O1);rfl;(simp (disch:=omega);exact Rz);exact Rz;(focus (first|(simp;done)|omega|(simp;omega))))|((with_reducible first|apply Z7|apply Z9);(simp (disch:=omega);exact Rz)))
          refine q_drop (.inr rfl) (by simp; exact Rz) (by simp) ⟨rfl,20,rfl,no fun h=>by have:=h3.2 h.rul; cases this⟩
        | true =>
          repeat (first|(with_reducible first|apply X1|apply X2|apply X3|apply X5|apply X8)|((with_reducible apply e_end);(simp;exact Rz))|((with_reducible apply O1);rfl;(simp (disch:=omega);exact Rz);exact Rz;(focus (first|(simp;done)|omega|(simp;omega))))|((with_reducible apply Z7);(simp (disch:=omega);exact Rz))|((with_reducible apply W3);(simp (disch:=omega);exact Rz)))
          have o1:=h1.1 rfl
          have o2:=h2.1 rfl
          refine q_drop (.inr rfl) (by simp; exact Rz) (by simp) ⟨rfl,0,rfl,.inl ⟨hv,⟨by rw [← htn]; exact o1.1,o2.1,o1.2,o2.2,h3.1 rfl⟩,rfl⟩⟩
def mdF (w : Bool) : FuncId:=if w=true then F.qcz else F.qcy
def tnF (w : Bool) : FuncId:=if w=true then F.qcy else F.qcz
def mkF (w : Bool) (lo hi : Int) : Int:=if w=true then lo else hi
def tkF (w : Bool) (lo hi : Int) : Int:=if w=true then hi else lo
theorem c_Low (H : Heap) (a b : Int) : ACalls Try.prog F.qcz [.agg [.int .i64 a,.int .i64 b]] H (fun v h'=>v=.int .i64 a∧h'=H):=by
  refine acalls_of ok_qcz rfl fun hcl=>?_
  unfold ac_qcz zo
  simp only [argsT,Nat.zero_add,Nat.reduceAdd]
  repeat (first|(with_reducible first|apply X1|apply X2|apply X3|apply X8)|((with_reducible apply e_end);(simp;exact Rz))|((with_reducible apply O1);rfl;(simp (disch:=omega);exact Rz);exact Rz;(focus (first|(simp;done)|omega|(simp;omega)))))
  refine q_drop (.inr rfl) (by simp; exact Rz) (by simp) ⟨rfl,rfl⟩
theorem c_High (H : Heap) (a b : Int) : ACalls Try.prog F.qcy [.agg [.int .i64 a,.int .i64 b]] H (fun v h'=>v=.int .i64 b∧h'=H):=by
  refine acalls_of ok_qcy rfl fun hcl=>?_
  unfold ac_qcy zo
  simp only [argsT,Nat.zero_add,Nat.reduceAdd]
  repeat (first|(with_reducible first|apply X1|apply X2|apply X3|apply X8)|((with_reducible apply e_end);(simp;exact Rz))|((with_reducible apply O1);rfl;(simp (disch:=omega);exact Rz);exact Rz;(focus (first|(simp;done)|omega|(simp;omega)))))
  refine q_drop (.inr rfl) (by simp; exact Rz) (by simp) ⟨rfl,rfl⟩
theorem c_made (w : Bool) (H : Heap) (a b : Int) : ACalls Try.prog (mdF w) [.agg [.int .i64 a,.int .i64 b]] H (fun v h'=>v=.int .i64 (mkF w a b)∧h'=H):=by
  cases w
  · exact c_High H a b
  · exact c_Low H a b
theorem c_taken (w : Bool) (H : Heap) (a b : Int) : ACalls Try.prog (tnF w) [.agg [.int .i64 a,.int .i64 b]] H (fun v h'=>v=.int .i64 (tkF w a b)∧h'=H):=by
  cases w
  · exact c_Low H a b
  · exact c_High H a b
def Cv.tv (c : Cv) (p : Plc) (w : Bool) : List AV:=[.slice p.tid p.toff p.tn 9 p.tex,.slice p.bid p.boff c.bs.length 3 p.bex,.slice p.hid p.hoff c.hs.length 5 p.hex,.int .i64 c.w1,.int .i64 c.w2,.int .i64 c.y1,.int .i64 c.y2,.int .i64 c.rate,.int .i64 c.lim,.int .i64 c.base,.fn (.func (mdF w)) [] [],.fn (.func (tnF w)) [] []]
theorem end_melt (w : Bool) (c : Cv) (h : Nat) : (endT w c).melt h=tkF w (c.h h).m1 (c.h h).m2:=by cases w <;> rfl
theorem end_wear (w : Bool) (c : Cv) : (endT w c).wear=tkF w c.w1 c.w2:=by cases w <;> rfl
theorem end_thick (w : Bool) (c : Cv) (i : Nat) : (endT w c).thick i=mkF w (c.b i).lo (c.b i).hi:=by cases w <;> rfl
theorem end_layer (w : Bool) (c : Cv) : (endT w c).layer=mkF w c.y1 c.y2:=by cases w <;> rfl
theorem CvAt.bed {H : Heap} {c : Cv} {p : Plc} (h : CvAt H c p) {s : Nat} (hs : s < c.bs.length) : rd H p.bid (p.boff+s * 3) 3=some (c.b s).av:=by
  rw [rd_row Bd.av_length h.b hs,Cv.b_eq hs]
theorem CvAt.hour {H : Heap} {c : Cv} {p : Plc} (h : CvAt H c p) {s : Nat} (hs : s < c.hs.length) : rd H p.hid (p.hoff+s * 5) 5=some (c.h s).av:=by
  rw [rd_row Hr.av_length h.h hs,Cv.h_eq hs]
theorem rd_sub' {H : Heap} {id off n : Nat} {vs : List AV} (h : rd H id off n=some vs) (j m : Nat) (hj : j+m≤n) : rd H id (off+j) m=some ((vs.drop j).take m):=rd_sub h hj
theorem c_iloss (w : Bool) (H : Heap) (c : Cv) (p : Plc) (n : Nat) (hp : CvAt H c p) (hc : c.ok n) (s h : Nat) (hs : s < c.bs.length) (hh : h < c.hs.length) :
    ACalls Try.prog F.qbp [.agg (c.tv p w),.int .i64 s,.int .i64 h] H (fun v h'=>v=.int .i64 (lossF c (endT w c) s h)∧h'=H):=by
  have hp1:=hp.t
  have hp2:=rd_lt hp.b
  have hp3:=rd_lt hp.h
  have hx:=hp.hour hh
  have hy:=rd_sub' (hp.bed hs) 2 1 (by omega)
  have bd:=loss_bd hc (endT_ok hc w) hs hh
  simp only [lossF,end_melt,end_wear] at bd ⊢
  generalize c.b s=bb at *
  generalize c.h h=hr at *
  obtain ⟨x1,x2,x3⟩:=bb
  obtain ⟨z1,z2,z3,z4,z5⟩:=hr
  simp only [Bd.av,Hr.av,List.drop_succ_cons,List.drop_zero,List.take_succ_cons,List.take_zero] at hx hy
  simp only [Cv.tv]
  dsimp only at bd ⊢
  have c1:=fun H=>c_taken w H z1 z2
  have c2:=fun H=>c_taken w H c.w1 c.w2
  have hhc : c.hs.length≤8:=hc.hours.2
  refine acalls_of ok_qbp rfl fun hcl=>?_
  unfold ac_qbp zo
  simp only [argsT,Nat.zero_add,Nat.reduceAdd]
  repeat (first|(with_reducible first|apply X1|apply X2|apply X8|apply Y9)|((with_reducible apply e_end);(simp;exact Rz))|((first|((with_reducible apply O1);rfl)|((with_reducible apply O2);rfl)|((with_reducible apply P1);rfl)|((with_reducible apply P2);rfl));(simp (disch:=omega) [rd_old _ hp3,rd_old _ hp2,hx,hy,hh,hs];exact Rz);exact Rz;(focus (first|(simp;done)|omega|(simp;omega)))))
  (with_reducible apply d_callV); (simp; exact Rz); (simp; exact Rz); exact c1 _; (focus (first | (simp; done) | (simp; omega)))
  repeat (first|((with_reducible apply P1);rfl;(simp (disch:=omega) [rd_old _ hp3,rd_old _ hp2,hx,hy,hh,hs];exact Rz);exact Rz;(focus (first|(simp;done)|omega|(simp;omega))))|((with_reducible apply P6);rfl;(simp (disch:=omega) [rd_old _ hp3,rd_old _ hp2,hx,hy,hh,hs];exact Rz);exact Rz;(focus (first|(simp [pr];done)|(simp [pr];omega)))))
  (with_reducible apply d_callV); (simp; exact Rz); (simp; exact Rz); exact c2 _; (focus (first | (simp; done) | (simp; omega)))
  repeat (first|(with_reducible first|apply X3|apply X8)|((with_reducible apply d_end);(simp;exact Rz))|((with_reducible apply P1);rfl;(simp (disch:=omega);exact Rz);exact Rz;(focus (first|(simp;done)|omega|(simp;omega)))))
  refine q_drop (.inr rfl) (by simp; exact Rz) (by simp) ⟨rfl,rfl⟩
theorem cv_Contains (H : Heap) (v : AV) (l : List Int) (x : Int) (hl : IAt H v l) (hn : (l.length : Int) < 1000000) {b : Bool} (hb : b=true↔x ∈ l) :
    ACalls Try.prog F.qcv [v,.int .i64 x] H (fun v h'=>v=.bool b∧h'=H):=by
  have hsc : ∀ k,v.sc (H.length+k)=true:=fun k=>RAt.sc hl (by omega)
  have ci : ACalls Try.prog F.qcw [v,.int .i64 x] H (fun v h'=>h'=H∧∃ i : Int,v=.int .i64 i∧(0≤i↔x ∈ l)∧-1≤i):=by
    refine acalls_of ok_qcw rfl fun hcl=>?_
    unfold ac_qcw zo
    simp only [argsT,Nat.zero_add,Nat.reduceAdd]
    repeat (first|(with_reducible first|apply X1|apply X2|apply X8)|((with_reducible apply e_end);(simp;exact Rz))|((with_reducible apply O1);rfl;(simp (disch:=omega);exact Rz);exact Rz;(focus (first|(simp;done)|omega|(simp;omega)))))
    (with_reducible apply e_op); rfl; exact RAt.len hl _ (by simp); exact Rz; trivial
    repeat (first|(with_reducible first|apply X6|apply X8)|((with_reducible apply e_end);(simp;exact Rz))|((with_reducible apply O1);rfl;(simp (disch:=omega);exact Rz);exact Rz;(focus (first|(simp;done)|omega|(simp;omega)))))
    refine e_loop (ι:={ i : Nat // i≤l.length∧∀ j (hj : j < l.length),j < i→l[j] ≠ x })
      (fun i=>[(0,v),(1,.int .i64 x),(7,.int .i64 l.length),(8,.int .i64 i.1)]) (fun _=>H) (fun i=>l.length - i.1) ⟨0,by simp⟩ ?_ ?_
    · exact .inr <| le_id (by simp; exact hsc 0)
    · rintro ⟨i,hi1,hi2⟩
      dsimp only
      by_cases hlt : i < l.length
      · have hlt2 : (i : Int) < l.length:=by omega
        obtain ⟨id,off,ex,rfl,hx,hid⟩:=IAt.get hl hlt
        by_cases he : x=l[i]
        · repeat (first|(with_reducible first|apply X1|apply X2|apply X3|apply X5|apply X6|apply X8|apply X9|apply Y3|apply Y5)|((with_reducible apply e_end);(simp;exact Rz))|((with_reducible apply O1);rfl;(simp (disch:=omega) [hlt,hlt2,hx,he];exact Rz);exact Rz;(focus (first|(simp;done)|omega|(simp;omega))))|((with_reducible apply Z9);(simp (disch:=omega) [hlt,hlt2,hx,he];exact Rz)))
          refine q_drop0 (.inr rfl) (by simp; exact Rz) (by simp) ⟨rfl,i,rfl,⟨fun _=>by rw [he]; exact List.getElem_mem _,fun _=>by omega⟩,by omega⟩
        · repeat (first|(with_reducible first|apply X1|apply X2|apply X5|apply X6|apply X8|apply Y2)|((with_reducible apply e_end);(simp;exact Rz))|((with_reducible apply O1);rfl;(simp (disch:=omega) [hlt,hlt2,hx,he];exact Rz);exact Rz;(focus (first|(simp;done)|omega|(simp;omega))))|((with_reducible apply Z9);(simp (disch:=omega) [hlt,hlt2,hx,he];exact Rz))|((with_reducible apply W3);(simp (disch:=omega) [hlt,hlt2,hx,he];exact Rz)))
          refine q_again ⟨i+1,hlt,?_⟩ (by dsimp only; omega) (.inr (le_id (by simp; exact hid)))
          intro j hj hji
          rcases Nat.lt_or_ge j i with h | h
          · exact hi2 j hj h
          · obtain rfl : j=i:=by omega
            exact fun h=>he h.symm
      · have hlt2 : ¬ (i : Int) < l.length:=by omega
        repeat (first|(with_reducible first|apply X1|apply X2|apply X3|apply X4|apply X8|apply Y1|apply Y4|apply Y6)|((with_reducible apply e_end);(simp;exact Rz))|((with_reducible apply O1);rfl;(simp (disch:=omega) [hlt2];exact Rz);exact Rz;(focus (first|(simp;done)|omega|(simp;omega))))|((with_reducible apply W3);(simp (disch:=omega) [hlt2];exact Rz)))
        refine q_drop0 (.inr rfl) (by simp; exact Rz) (by simp) ⟨rfl,-1,rfl,⟨fun h=>by omega,fun h=>by obtain ⟨j,hj,rfl⟩:=List.getElem_of_mem h; exact absurd rfl (hi2 j hj (by omega))⟩,by omega⟩
  refine acalls_of ok_qcv rfl fun hcl=>?_
  unfold ac_qcv zo
  simp only [argsT,Nat.zero_add,Nat.reduceAdd]
  repeat (first|(with_reducible first|apply X1|apply X2|apply X8)|((with_reducible apply e_end);(simp;exact Rz))|((with_reducible apply O1);rfl;(simp (disch:=omega);exact Rz);exact Rz;(focus (first|(simp;done)|omega|(simp;omega)))))
  (with_reducible apply e_call); (simp; exact Rz); exact ci
  rintro _ _ ⟨rfl,i,rfl,hi,hi2⟩
  repeat (first|(with_reducible first|apply X3|apply X8)|((with_reducible apply e_end);(simp;exact Rz))|((with_reducible apply O1);rfl;(simp (disch:=omega);exact Rz);exact Rz;(focus (first|(simp;done)|omega|(simp;omega)))))
  refine q_stay (.inr rfl) (by simp; exact Rz) ⟨by rw [AV.bool.injEq,Bool.eq_iff_iff,hb,← hi]; simp,rfl⟩
theorem c_greatest1 (H : Heap) (a x : Int) (id off : Nat) (ex : Bool) (hs : rd H id off 1=some [.int .i64 x]) : ACalls Try.prog F.qav [.int .i64 a,.slice id off 1 1 ex] H (fun v h'=>v=.int .i64 (max a x)∧h'=H):=by
  have hid:=rd_lt hs
  refine acalls_of ok_qav rfl fun hcl=>?_
  unfold ac_qav zo
  simp only [argsT,Nat.zero_add,Nat.reduceAdd]
  repeat (first|(with_reducible first|apply X1|apply X2|apply X6|apply X8)|((with_reducible apply e_end);(simp;exact Rz))|((with_reducible apply O1);rfl;(simp (disch:=omega);exact Rz);exact Rz;(focus (first|(simp;done)|omega|(simp;omega)))))
  refine e_loop (ι:={ i : Nat // i≤1 })
    (fun i=>[(0,.int .i64 (if i.1=0 then a else max a x)),(7,.slice id off 1 1 ex),(8,.int .i64 1),(9,.int .i64 i.1)]) (fun _=>H) (fun i=>1 - i.1) ⟨0,by simp⟩ ?_ ?_
  · exact .inr <| le_id (by simp [hid])
  · rintro ⟨i,hi⟩
    dsimp only
    have : i=0∨i=1:=by omega
    rcases this with rfl | rfl
    · by_cases hg : a < x
      · repeat (first|(with_reducible first|apply X1|apply X2|apply X5|apply X6|apply X8|apply Y2)|((with_reducible apply e_end);(simp;exact Rz))|((with_reducible apply O1);rfl;(simp (disch:=omega) [hs,hg];exact Rz);exact Rz;(focus (first|(simp;done)|omega|(simp;omega))))|((with_reducible apply Z9);(simp (disch:=omega) [hs,hg];exact Rz)))
        exact q_again ⟨1,by omega⟩ (by simp) (.inr (le_id (by simp [hid]; omega)))
      · repeat (first|(with_reducible first|apply X1|apply X2|apply X5|apply X6|apply X8|apply Y2)|((with_reducible apply e_end);(simp;exact Rz))|((with_reducible apply O1);rfl;(simp (disch:=omega) [hs,hg];exact Rz);exact Rz;(focus (first|(simp;done)|omega|(simp;omega))))|((with_reducible apply Z9);(simp (disch:=omega) [hs,hg];exact Rz))|((with_reducible apply W3);(simp (disch:=omega) [hs,hg];exact Rz)))
        exact q_again ⟨1,by omega⟩ (by simp) (.inr (le_id (by simp [hid]; omega)))
    · repeat (first|(with_reducible first|apply X1|apply X2|apply X3|apply X4|apply X8|apply Y1|apply Y4|apply Y6)|((with_reducible apply e_end);(simp;exact Rz))|((with_reducible apply O1);rfl;(simp (disch:=omega);exact Rz);exact Rz;(focus (first|(simp;done)|omega|(simp;omega))))|((with_reducible apply W3);(simp (disch:=omega);exact Rz)))
      refine q_stay (.inr rfl) (by simp; exact Rz) ⟨by simp,rfl⟩
theorem c_rules (H : Heap) : ACalls Try.prog F.qbi [] H (fun v h'=>v=.agg [.fn (.func F.qbj) [] [],.fn (.func F.qbk) [] [],.fn (.func F.qbl) [] [],.fn (.func F.qbm) [] []]∧h'=H):=by
  refine acalls_of ok_qbi rfl fun hcl=>?_
  unfold ac_qbi zo
  simp only [argsT,Nat.zero_add,Nat.reduceAdd]
  repeat (first|(with_reducible first|apply X1|apply X2|apply X3|apply X8)|((with_reducible apply e_end);(simp;exact Rz))|((first|((with_reducible apply O1);rfl)|((with_reducible apply O2);rfl));(simp (disch:=omega);exact Rz);exact Rz;(focus (first|(simp;done)|omega|(simp;omega)))))
  refine q_drop (.inr rfl) (by simp; exact Rz) (by simp) ⟨rfl,rfl⟩
theorem c_rule1 (H : Heap) (h : Hr) : ACalls Try.prog F.qbj [.agg h.av] H (fun v h'=>v=.bool (decide (0 < h.runs))∧h'=H):=by
  obtain ⟨z1,z2,z3,z4,z5⟩:=h
  simp only [Hr.av]
  refine acalls_of ok_qbj rfl fun hcl=>?_
  unfold ac_qbj zo
  simp only [argsT,Nat.zero_add,Nat.reduceAdd]
  repeat (first|(with_reducible first|apply X1|apply X2|apply X3|apply X8)|((with_reducible apply e_end);(simp;exact Rz))|((with_reducible apply O1);rfl;(simp (disch:=omega);exact Rz);exact Rz;(focus (first|(simp;done)|omega|(simp;omega)))))
  refine q_drop (.inr rfl) (by simp; exact Rz) (by simp) ⟨rfl,rfl⟩
theorem c_rule3 (H : Heap) (h : Hr) : ACalls Try.prog F.qbl [.agg h.av] H (fun v h'=>v=.bool true∧h'=H):=by
  obtain ⟨z1,z2,z3,z4,z5⟩:=h
  simp only [Hr.av]
  refine acalls_of ok_qbl rfl fun hcl=>?_
  unfold ac_qbl zo
  simp only [argsT,Nat.zero_add,Nat.reduceAdd]
  repeat (first|(with_reducible first|apply X1|apply X2|apply X3|apply X8)|((with_reducible apply e_end);(simp;exact Rz))|((with_reducible apply O1);rfl;(simp (disch:=omega);exact Rz);exact Rz;(focus (first|(simp;done)|omega|(simp;omega)))))
  refine q_drop (.inr rfl) (by simp; exact Rz) (by simp) ⟨rfl,rfl⟩
theorem c_rule2 (H : Heap) (c : Cv) (p : Plc) (hp : CvAt H c p) : ACalls Try.prog F.qbk [.agg (c.av p)] H (fun v h'=>v=.int .i64 c.lim∧h'=H):=by
  have hp1:=hp.t
  have hp2:=rd_lt hp.b
  have hp3:=rd_lt hp.h
  simp only [Cv.av]
  refine acalls_of ok_qbk rfl fun hcl=>?_
  unfold ac_qbk zo
  simp only [argsT,Nat.zero_add,Nat.reduceAdd]
  repeat (first|(with_reducible first|apply X1|apply X2|apply X3|apply X8)|((with_reducible apply e_end);(simp;exact Rz))|((with_reducible apply O1);rfl;(simp (disch:=omega);exact Rz);exact Rz;(focus (first|(simp;done)|omega|(simp;omega)))))
  refine q_drop (.inr rfl) (by simp; exact Rz) (by simp) ⟨rfl,rfl⟩
theorem c_rule4 (H : Heap) (c : Cv) (p : Plc) (hp : CvAt H c p) : ACalls Try.prog F.qbm [.agg (c.av p)] H (fun v h'=>v=.int .i64 c.base∧h'=H):=by
  have hp1:=hp.t
  have hp2:=rd_lt hp.b
  have hp3:=rd_lt hp.h
  simp only [Cv.av]
  refine acalls_of ok_qbm rfl fun hcl=>?_
  unfold ac_qbm zo
  simp only [argsT,Nat.zero_add,Nat.reduceAdd]
  repeat (first|(with_reducible first|apply X1|apply X2|apply X3|apply X8)|((with_reducible apply e_end);(simp;exact Rz))|((with_reducible apply O1);rfl;(simp (disch:=omega);exact Rz);exact Rz;(focus (first|(simp;done)|omega|(simp;omega)))))
  refine q_drop (.inr rfl) (by simp; exact Rz) (by simp) ⟨rfl,rfl⟩
theorem c_least (H : Heap) (c : Cv) (p : Plc) (n : Nat) (hp : CvAt H c p) (hc : c.ok n) (h : Nat) (hh : h < c.hs.length) :
    ACalls Try.prog F.qan [.agg (c.av p),.int .i64 h] H (fun v h'=>v=.int .i64 (asks c h)∧h'=H):=by
  have hp1:=hp.t
  have hp2:=rd_lt hp.b
  have hp3:=rd_lt hp.h
  have hx:=hp.hour hh
  have hhc : c.hs.length≤8:=hc.hours.2
  have hr:=hc.rul
  simp only [Cv.ruled] at hr
  have k1:=fun G=>c_rule1 G (c.h h)
  have k3:=fun G=>c_rule3 G (c.h h)
  have k2:=fun G=>c_rule2 (H++G) c p (hp.app G)
  have k4:=fun G=>c_rule4 (H++G) c p (hp.app G)
  simp only [asks]
  generalize c.h h=hr at *
  obtain ⟨z1,z2,z3,z4,z5⟩:=hr
  simp only [Cv.av,Hr.av] at *
  refine acalls_of ok_qan rfl fun hcl=>?_
  unfold ac_qan zo
  simp only [argsT,Nat.zero_add,Nat.reduceAdd]
  repeat (first|(with_reducible first|apply X1|apply X2|apply X8)|((with_reducible apply e_end);(simp;exact Rz))|((with_reducible apply O1);rfl;(simp (disch:=omega);exact Rz);exact Rz;(focus (first|(simp;done)|omega|(simp;omega)))))
  (with_reducible apply e_call); (simp; exact Rz); exact c_rules _
  rintro _ _ ⟨rfl,rfl⟩
  repeat (first|(with_reducible first|apply X6|apply X8)|((with_reducible apply e_end);(simp;exact Rz))|((with_reducible apply O1);rfl;(simp (disch:=omega);exact Rz);exact Rz;(focus (first|(simp;done)|omega|(simp;omega)))))
  refine e_loop (ι:={ i : Nat // i≤2 })
    (fun i=>[(1,.int .i64 h),(2,.ptr H.length 0),(5,.int .i64 (if i.1=0 then 0 else if i.1=1 then (if 0 < z3 then c.lim else 0) else if 0 < z3 then c.lim else c.base)),(8,.agg [.fn (.func F.qbj) [] [],.fn (.func F.qbk) [] [],.fn (.func F.qbl) [] [],.fn (.func F.qbm) [] []]),(9,.int .i64 i.1)])
    (fun _=>H++[.cells [.slice p.tid p.toff p.tn 9 p.tex,.slice p.bid p.boff c.bs.length 3 p.bex,.slice p.hid p.hoff c.hs.length 5 p.hex,.int .i64 c.w1,.int .i64 c.w2,.int .i64 c.y1,.int .i64 c.y2,.int .i64 c.rate,.int .i64 c.lim,.int .i64 c.base] true]) (fun i=>2 - i.1) ⟨0,by simp⟩ ?_ ?_
  · exact .inr <| le_same (by simp; omega) (by simp [Red])
  · rintro ⟨i,hi⟩
    dsimp only
    have : i=0∨i=1∨i=2:=by omega
    rcases this with rfl | rfl | rfl
    · repeat (first|(with_reducible first|apply X1|apply X2|apply X5|apply X6|apply X8|apply Y9)|((with_reducible apply e_end);(simp;exact Rz))|((first|((with_reducible apply O1);rfl)|((with_reducible apply O2);rfl)|((with_reducible apply P1);rfl)|((with_reducible apply P2);rfl));(simp (disch:=omega) [rd_old _ hp3,hx,hh];exact Rz);exact Rz;(focus (first|(simp;done)|omega|(simp;omega))))|((with_reducible apply Z9);(simp (disch:=omega) [rd_old _ hp3,hx,hh];exact Rz)))
      (with_reducible apply d_callV); (simp; exact Rz); (simp; exact Rz); exact k1 _; (focus (first | (simp; done) | (simp; omega)))
      by_cases hz : 0 < z3
      · repeat (first|(with_reducible first|apply X2|apply X8)|((with_reducible apply d_end);(simp;exact Rz))|((with_reducible apply O1);rfl;(simp (disch:=omega) [hz];exact Rz);exact Rz;(focus (first|(simp;done)|omega|(simp;omega))))|((with_reducible apply Z9);(simp (disch:=omega) [hz];exact Rz)))
        (with_reducible apply e_callV); (simp; exact Rz); (simp; exact Rz); exact k2 _
        rintro _ _ ⟨rfl,rfl⟩
        repeat ((with_reducible apply O1);rfl;(simp (disch:=omega);exact Rz);exact Rz;(focus (first|(simp;done)|omega|(simp;omega))))
        (with_reducible apply e_call); (simp; exact Rz); exact c_greatest1 _ _ c.lim _ _ _ (by simp)
        rintro _ _ ⟨rfl,rfl⟩
        repeat (first|(with_reducible first|apply X2|apply X8|apply Y2)|((with_reducible apply e_end);(simp;exact Rz))|((with_reducible apply O1);rfl;(simp (disch:=omega);exact Rz);exact Rz;(focus (first|(simp;done)|omega|(simp;omega)))))
        refine q_again ⟨1,by omega⟩ (by simp) (.inr (le_take (G:=[_]) (by simp; omega) (by simp [Red,hz]; omega)))
      · repeat (first|(with_reducible first|apply X2|apply X5|apply X8|apply Y2)|((with_reducible first|apply e_end|apply d_end);(simp;exact Rz))|((with_reducible apply O1);rfl;(simp (disch:=omega) [hz];exact Rz);exact Rz;(focus (first|(simp;done)|omega|(simp;omega))))|((with_reducible apply W3);(simp (disch:=omega) [hz];exact Rz)))
        refine q_again ⟨1,by omega⟩ (by simp) (.inr (le_take (G:=[_]) (by simp; omega) (by simp [Red,hz])))
    · repeat (first|(with_reducible first|apply X1|apply X2|apply X5|apply X6|apply X8|apply Y9)|((with_reducible apply e_end);(simp;exact Rz))|((first|((with_reducible apply O1);rfl)|((with_reducible apply O2);rfl)|((with_reducible apply P1);rfl)|((with_reducible apply P2);rfl));(simp (disch:=omega) [rd_old _ hp3,hx,hh];exact Rz);exact Rz;(focus (first|(simp;done)|omega|(simp;omega))))|((with_reducible apply Z9);(simp (disch:=omega) [rd_old _ hp3,hx,hh];exact Rz)))
      (with_reducible apply d_callV); (simp; exact Rz); (simp; exact Rz); exact k3 _; (focus (first | (simp; done) | (simp; omega)))
      repeat (first|(with_reducible first|apply X2|apply X8)|((with_reducible apply d_end);(simp;exact Rz))|((with_reducible apply O1);rfl;(simp (disch:=omega);exact Rz);exact Rz;(focus (first|(simp;done)|omega|(simp;omega))))|((with_reducible apply Z9);(simp (disch:=omega);exact Rz)))
      (with_reducible apply e_callV); (simp; exact Rz); (simp; exact Rz); exact k4 _
      rintro _ _ ⟨rfl,rfl⟩
      repeat ((with_reducible apply O1);rfl;(simp (disch:=omega);exact Rz);exact Rz;(focus (first|(simp;done)|omega|(simp;omega))))
      (with_reducible apply e_call); (simp; exact Rz); exact c_greatest1 _ _ c.base _ _ _ (by simp)
      rintro _ _ ⟨rfl,rfl⟩
      repeat (first|(with_reducible first|apply X2|apply X8|apply Y2)|((with_reducible apply e_end);(simp;exact Rz))|((with_reducible apply O1);rfl;(simp (disch:=omega);exact Rz);exact Rz;(focus (first|(simp;done)|omega|(simp;omega)))))
      refine q_again ⟨2,by omega⟩ (by simp) (.inr (le_take (G:=[_]) (by simp; omega) (by simp [Red]; split <;> omega)))
    · repeat (first|(with_reducible first|apply X1|apply X2|apply X3|apply X4|apply X8|apply Y1|apply Y4|apply Y6)|((with_reducible apply e_end);(simp;exact Rz))|((with_reducible apply O1);rfl;(simp (disch:=omega);exact Rz);exact Rz;(focus (first|(simp;done)|omega|(simp;omega))))|((with_reducible apply W3);(simp (disch:=omega);exact Rz)))
      refine q_drop (.inr rfl) (by simp; exact Rz) (by simp) ⟨by simp,rfl⟩
theorem c_before (w : Bool) (H : Heap) (c : Cv) (p : Plc) (n : Nat) (hp : CvAt H c p) (hc : c.ok n) (pv : AV) (L : Nat→List Int) (hpl : PlAt H pv c.hs.length L) (hL : ∀ k,k < c.hs.length→((L k).length : Int) < 1000000) (s h : Nat) (hs : s < c.bs.length) (hh : h≤c.hs.length) (hn : n≤12) :
    ACalls Try.prog F.qbo [.agg (c.tv p w),pv,.int .i64 s,.int .i64 h] H (fun v h'=>v=.int .i64 (befF c (endT w c) (inP L) s h)∧h'=H):=by
  have hp1:=hp.t
  have hp2:=rd_lt hp.b
  have hp3:=rd_lt hp.h
  have hy:=rd_sub' (hp.bed hs) 0 2 (by omega)
  have hlen:=hc.len
  have cl:=fun G k (hk : k < c.hs.length)=>c_iloss w (H++G) c p n (hp.app G) hc s k hs hk
  have c1:=fun H=>c_made w H (c.b s).lo (c.b s).hi
  have c2:=fun H=>c_made w H c.y1 c.y2
  have hb0 : befF c (endT w c) (inP L) s 0=mkF w (c.b s).lo (c.b s).hi:=by simp only [befF,end_thick]
  rw [← hb0] at c1
  have hbS : ∀ k,befF c (endT w c) (inP L) s (k+1)=max 0 (befF c (endT w c) (inP L) s k - lossF c (endT w c) s k)+if inP L k s then mkF w c.y1 c.y2 else 0:=fun k=>by simp only [befF,end_layer]
  have bd:=fun k hk=>bef_bd hc (endT_ok hc w) (inP L) hs (h:=k) hk
  have ld:=fun k hk=>loss_bd hc (endT_ok hc w) hs (h:=k) hk
  have yd : 0≤mkF w c.y1 c.y2∧mkF w c.y1 c.y2≤100:=by
    have:=hc.rul
    simp only [Cv.ruled] at this
    cases w <;> simp [mkF] <;> omega
  have h8:=hc.hours.2
  obtain ⟨pid,poff,pex,rfl,hpid,hrow⟩:=hpl.get
  generalize befF c (endT w c) (inP L) s=B at *
  generalize hlo : lossF c (endT w c) s=lo at *
  generalize c.b s=bb at *
  obtain ⟨x1,x2,x3⟩:=bb
  simp only [Bd.av,List.drop_zero,List.take_succ_cons,List.take_zero,Nat.add_zero] at hy
  simp only [Cv.tv] at *
  refine acalls_of ok_qbo rfl fun hcl=>?_
  unfold ac_qbo zo
  simp only [argsT,Nat.zero_add,Nat.reduceAdd]
  repeat (first|(with_reducible first|apply X1|apply X2|apply X8|apply Y9)|((with_reducible apply e_end);(simp;exact Rz))|((first|((with_reducible apply O1);rfl)|((with_reducible apply P1);rfl)|((with_reducible apply P2);rfl));(simp (disch:=omega) [rd_old _ hp2,hy,hs];exact Rz);exact Rz;(focus (first|(simp;done)|omega|(simp;omega)))))
  (with_reducible apply d_callV); (simp; exact Rz); (simp; exact Rz); exact c1 _; (focus (first | (simp; done) | (simp; omega)))
  repeat (first|(with_reducible first|apply X1|apply X2|apply X6|apply X8)|((with_reducible first|apply e_end|apply d_end);(simp;exact Rz))|((first|((with_reducible apply O1);rfl)|((with_reducible apply P1);rfl));(simp (disch:=omega);exact Rz);exact Rz;(focus (first|(simp;done)|omega|(simp;omega)))))
  refine e_loop (ι:={ i : Nat // i≤h })
    (fun i=>[(1,.slice pid poff c.hs.length 1 pex),(2,.int .i64 s),(4,.ptr H.length 0),(9,.int .i64 (B i.1)),(22,.int .i64 h),(23,.int .i64 i.1)])
    (fun _=>H++[.cells (c.tv p w) true]) (fun i=>h - i.1) ⟨0,by simp⟩ ?_ ?_
  · simp only [Cv.tv]
    exact .inr <| le_same (by simp; omega) (by simp [Red]; omega)
  · rintro ⟨i,hi⟩
    simp only [Cv.tv]
    by_cases hlt : i < h
    · have hlt2 : (i : Int) < h:=by omega
      have b1:=bd i (by omega)
      have l1:=ld i (by omega)
      have hi9 : i < c.hs.length:=by omega
      obtain ⟨x,hx,hix⟩:=hrow i hi9
      have hxs:=RAt.sc hix (Nat.le_refl _)
      have hxs' : ∀ k,x.sc (H.length+k)=true:=fun k=>RAt.sc hix (by omega)
      obtain ⟨bc,hbc⟩:=bof ((s : Int) ∈ L i)
      have hbS:=hbS i
      have hpc : inP L i s=bc:=by simp only [inP]; rw [Bool.eq_iff_iff,hbc]; simp
      rw [hpc] at hbS
      repeat (first|(with_reducible first|apply X1|apply X2|apply X5|apply X6|apply X8)|((with_reducible apply e_end);(simp;exact Rz))|((with_reducible apply O1);rfl;(simp (disch:=omega) [hlt2];exact Rz);exact Rz;(focus (first|(simp;done)|omega|(simp;omega))))|((with_reducible apply Z9);(simp (disch:=omega) [hlt2];exact Rz)))
      (with_reducible apply e_call); (simp; exact Rz); exact cl _ i hi9
      rintro _ _ ⟨rfl,rfl⟩
      repeat ((with_reducible apply O1);rfl;(simp (disch:=omega);exact Rz);exact Rz;(focus (first|(simp;done)|omega|(simp;omega))))
      (with_reducible apply e_call); (simp; exact Rz); exact c_greatest1 _ _ _ _ _ _ (by simp; exact Rz)
      rintro _ _ ⟨rfl,rfl⟩
      repeat (first|(with_reducible first|apply X1|apply X2|apply X8)|((with_reducible apply e_end);(simp;exact Rz))|((with_reducible apply O1);rfl;(simp (disch:=omega) [rd_old _ hpid,hx,hi9];exact Rz);exact Rz;(focus (first|(simp;done)|omega|(simp;omega)))))
      (with_reducible apply e_call); (simp; exact Rz); exact cv_Contains _ _ (L i) _ (RAt.app hix _) (hL i hi9) hbc
      rintro _ _ ⟨rfl,rfl⟩
      cases bc with
      | true =>
        repeat (first|(with_reducible first|apply X2|apply X8)|((with_reducible apply e_end);(simp;exact Rz))|((with_reducible apply O1);rfl;(simp (disch:=omega);exact Rz);exact Rz;(focus (first|(simp;done)|omega|(simp;omega))))|((with_reducible apply Z9);(simp (disch:=omega);exact Rz)))
        (with_reducible apply e_callV); (simp; exact Rz); (simp; exact Rz); exact c2 _
        rintro _ _ ⟨rfl,rfl⟩
        simp only [if_true] at hbS
        repeat (first|(with_reducible first|apply X2|apply X8|apply Y2)|((with_reducible apply e_end);(simp;exact Rz))|((with_reducible apply O1);rfl;(simp (disch:=omega);exact Rz);exact Rz;(focus (first|(simp;done)|omega|(simp;omega)))))
        rw [← hbS]
        refine q_again ⟨i+1,by omega⟩ (by dsimp only; omega) (.inr ?_)
        exact le_take (G:=[_]) (by simp; omega) (by simp [Red]; omega)
      | false =>
        simp only [Bool.false_eq_true,if_false,Int.add_zero] at hbS
        repeat (first|(with_reducible first|apply X2|apply X5|apply X8|apply Y2)|((with_reducible apply e_end);(simp;exact Rz))|((with_reducible apply O1);rfl;(simp (disch:=omega);exact Rz);exact Rz;(focus (first|(simp;done)|omega|(simp;omega))))|((with_reducible apply W3);(simp (disch:=omega);exact Rz)))
        rw [← hbS]
        refine q_again ⟨i+1,by omega⟩ (by dsimp only; omega) (.inr ?_)
        exact le_take (G:=[_]) (by simp; omega) (by simp [Red]; omega)
    · have hlt2 : ¬ (i : Int) < h:=by omega
      obtain rfl : i=h:=by omega
      repeat (first|(with_reducible first|apply X1|apply X2|apply X3|apply X4|apply X8|apply Y1|apply Y4|apply Y6)|((with_reducible apply e_end);(simp;exact Rz))|((with_reducible apply O1);rfl;(simp (disch:=omega) [hlt2];exact Rz);exact Rz;(focus (first|(simp;done)|omega|(simp;omega))))|((with_reducible apply W3);(simp (disch:=omega) [hlt2];exact Rz)))
      refine q_drop (.inr rfl) (by simp; exact Rz) (by simp) ⟨rfl,rfl⟩
theorem pv_plain : ∀ l : List (Int × Int),Plain (pv l)
  | []=>Plain.nil
  | x :: l=>by
    have:=(pv_plain l)
    exact Plain.app (xs:=[.int .i64 x.1,.int .i64 x.2]) ⟨rfl,fun _=>rfl,fun _=>rfl⟩ this
theorem c_thin (w : Bool) (H : Heap) (c : Cv) (p : Plc) (n : Nat) (hp : CvAt H c p) (hc : c.ok n) (pv : AV) (L : Nat→List Int) (hpl : PlAt H pv c.hs.length L) (hL : ∀ k,k < c.hs.length→((L k).length : Int) < 1000000) (h : Nat) (hh : h < c.hs.length) (hn : n≤12) :
    ACalls Try.prog F.qbq [.agg (c.tv p w),pv,.int .i64 h] H (fun v h'=>v=lsV H 1 (thL c (endT w c) (inP L) h c.bs.length).length∧h'=H++lsO (thL c (endT w c) (inP L) h c.bs.length).length (iv (thL c (endT w c) (inP L) h c.bs.length))):=by
  have hp1:=hp.t
  have hp2:=rd_lt hp.b
  have hp3:=rd_lt hp.h
  have hlen:=hc.len
  have h8:=hc.hours.2
  have cb:=fun G s hs=>c_before w (H++G) c p n (hp.app G) hc pv L (hpl.app G) hL s h hs (by omega) hn
  have cl:=fun G s hs=>c_iloss w (H++G) c p n (hp.app G) hc s h hs hh
  have ce:=fun G=>c_least (H++G) c p n (hp.app G) hc h hh
  obtain ⟨pid,poff,pex,rfl,hpid,hrow⟩:=hpl.get
  have bd:=fun s hs=>bef_bd hc (endT_ok hc w) (inP L) (s:=s) hs (h:=h) (by omega)
  have ld:=fun s hs=>(loss_bd hc (endT_ok hc w) (s:=s) hs hh).2.2
  have hs:=thL_succ c (endT w c) (inP L) h
  have hto : ∀ s,tooF c (endT w c) (inP L) h s=decide (befF c (endT w c) (inP L) s h - lossF c (endT w c) s h < asks c h):=fun _=>rfl
  have hln:=thL_len c (endT w c) (inP L) h
  have hT0 : thL c (endT w c) (inP L) h 0=[]:=rfl
  generalize thL c (endT w c) (inP L) h=T at *
  generalize tooF c (endT w c) (inP L) h=too at *
  generalize hB : (fun s=>befF c (endT w c) (inP L) s h)=B
  have hB : ∀ s,befF c (endT w c) (inP L) s h=B s:=fun s=>by rw [← hB]
  simp only [hB] at *
  generalize hlo : (fun s=>lossF c (endT w c) s h)=lo
  have hlo : ∀ s,lossF c (endT w c) s h=lo s:=fun s=>by rw [← hlo]
  simp only [hlo] at *
  generalize asks c h=ask at *
  simp only [Cv.tv,Cv.av] at *
  refine acalls_of ok_qbq rfl fun hcl=>?_
  unfold ac_qbq zo
  simp only [argsT,Nat.zero_add,Nat.reduceAdd]
  repeat (first|(with_reducible first|apply X1|apply X2|apply X6|apply X8)|((with_reducible apply e_end);(simp;exact Rz))|((with_reducible apply O1);rfl;(simp (disch:=omega);exact Rz);exact Rz;(focus (first|(simp;done)|omega|(simp;omega)))))
  generalize hbx : AObj.cells [.slice p.tid p.toff p.tn 9 p.tex,.slice p.bid p.boff c.bs.length 3 p.bex,.slice p.hid p.hoff c.hs.length 5 p.hex,.int .i64 c.w1,.int .i64 c.w2,.int .i64 c.y1,.int .i64 c.y2,.int .i64 c.rate,.int .i64 c.lim,.int .i64 c.base,.fn (.func (mdF w)) [] [],.fn (.func (tnF w)) [] []] true=box
  refine e_loop (ι:={ x : Nat × AV × Heap // x.1≤c.bs.length∧AAt (H++(box :: x.2.2)) 1 x.2.1 (iv (T x.1)) (T x.1).length∧∀ i,isId x.2.1 i→H.length+1≤i })
    (fun x=>[(1,.slice pid poff c.hs.length 1 pex),(2,.int .i64 h),(3,.ptr H.length 0),(7,x.1.2.1),(13,.int .i64 c.bs.length),(14,.int .i64 x.1.1)])
    (fun x=>H++(box :: x.1.2.2)) (fun x=>c.bs.length - x.1.1) ⟨(0,.nilslice,[]),by simp,by rw [hT0]; exact AAt.nil _ _,fun i hi=>hi.elim⟩ ?_ ?_
  · exact .inl rfl
  · rintro ⟨⟨i,v,G⟩,hi,hv,hvi⟩
    dsimp only at hi hv hvi ⊢
    by_cases hlt : i < c.bs.length
    · have hlt2 : (i : Int) < c.bs.length:=by omega
      have b1:=bd i hlt
      have l1:=ld i hlt
      have hs:=hs i
      rw [hto i] at hs
      have hln:=hln i
      subst hbx
      repeat (first|(with_reducible first|apply X1|apply X2|apply X5|apply X6|apply X8|apply Y9)|((with_reducible apply e_end);(simp;exact Rz))|((first|((with_reducible apply O1);rfl)|((with_reducible apply P1);rfl)|((with_reducible apply P2);rfl));(simp (disch:=omega) [hlt2];exact Rz);exact Rz;(focus (first|(simp;done)|omega|(simp;omega))))|((with_reducible apply Z9);(simp (disch:=omega) [hlt2];exact Rz)))
      (with_reducible apply d_call); (simp; exact Rz); exact cb _ _ hlt; (focus (first | (simp; done) | (simp; omega)))
      repeat (first|((with_reducible apply P1);rfl;(simp (disch:=omega);exact Rz);exact Rz;(focus (first|(simp;done)|omega|(simp;omega))))|((with_reducible apply P6);rfl;(simp (disch:=omega);exact Rz);exact Rz;(focus (first|(simp [pr];done)|(simp [pr];omega)))))
      (with_reducible apply d_call); (simp; exact Rz); exact cl _ _ hlt; (focus (first | (simp; done) | (simp; omega)))
      repeat (first|((with_reducible apply P1);rfl;(simp (disch:=omega);exact Rz);exact Rz;(focus (first|(simp;done)|omega|(simp;omega))))|((with_reducible apply P6);rfl;(simp (disch:=omega);exact Rz);exact Rz;(focus (first|(simp [pr];done)|(simp [pr];omega)))))
      (with_reducible apply d_call); (simp; exact Rz); exact ce _; (focus (first | (simp; done) | (simp; omega)))
      by_cases hk : B i - lo i < ask
      · have hs1 : T (i+1)=T i++[(i : Int)]:=by rw [hs]; simp [hk]
        repeat (first|(with_reducible first|apply X2|apply X8)|((with_reducible apply d_end);(simp;exact Rz))|((first|((with_reducible apply O1);rfl)|((with_reducible apply P1);rfl));(simp (disch:=omega) [hk];exact Rz);exact Rz;(focus (first|(simp;done)|omega|(simp;omega))))|((with_reducible apply Z9);(simp (disch:=omega) [hk];exact Rz)))
        refine e_appA (A:=H++[.cells [.slice p.tid p.toff p.tn 9 p.tex,.slice p.bid p.boff c.bs.length 3 p.bex,.slice p.hid p.hoff c.hs.length 5 p.hex,.int .i64 c.w1,.int .i64 c.w2,.int .i64 c.y1,.int .i64 c.y2,.int .i64 c.rate,.int .i64 c.lim,.int .i64 c.base,.fn (.func (mdF w)) [] [],.fn (.func (tnF w)) [] []] true]) (G:=G++[.cells [.int .i64 (i : Int)] true])
          (cs:=iv (T i)) (n:=(T i).length) (m:=1) (new:=[.int .i64 (i : Int)]) (by simp) (by simp; exact Rz) (by simp; exact Rz) (by have:=hv.app [.cells [.int .i64 (i : Int)] true]; simpa using this) (fun k hk=>by have:=hvi k hk; simp; omega) (by simp) (by simp) (by omega) (by omega) ?_
        intro G2 v2 e3 e4 _ _ _
        repeat (first|(with_reducible first|apply X2|apply X8|apply Y2)|((with_reducible apply e_end);(simp;exact Rz))|((with_reducible apply O1);rfl;(simp (disch:=omega);exact Rz);exact Rz;(focus (first|(simp;done)|omega|(simp;omega)))))
        refine q_again ⟨(i+1,v2,G2),by omega,?_,?_⟩ (by dsimp only; omega) (.inl ?_)
        · rw [hs1,iv_app,List.length_append]; simp only [List.append_assoc,List.cons_append,List.nil_append] at e3; exact e3
        · intro k hk; have:=e4 k hk; simpa using this
        · simp
      · have hs1 : T (i+1)=T i:=by rw [hs]; simp [hk]
        repeat (first|(with_reducible first|apply X2|apply X5|apply X8|apply Y2)|((with_reducible first|apply e_end|apply d_end);(simp;exact Rz))|((first|((with_reducible apply O1);rfl)|((with_reducible apply P1);rfl));(simp (disch:=omega) [hk];exact Rz);exact Rz;(focus (first|(simp;done)|omega|(simp;omega))))|((with_reducible apply W3);(simp (disch:=omega) [hk];exact Rz)))
        refine q_again ⟨(i+1,v,G),by omega,by rw [hs1]; exact hv,hvi⟩ (by dsimp only; omega) (.inl ?_)
        simp
    · have hlt2 : ¬ (i : Int) < c.bs.length:=by omega
      obtain rfl : i=c.bs.length:=by omega
      repeat (first|(with_reducible first|apply X1|apply X2|apply X3|apply X4|apply X8|apply Y1|apply Y4|apply Y6)|((with_reducible apply e_end);(simp;exact Rz))|((with_reducible apply O1);rfl;(simp (disch:=omega) [hlt2];exact Rz);exact Rz;(focus (first|(simp;done)|omega|(simp;omega))))|((with_reducible apply W3);(simp (disch:=omega) [hlt2];exact Rz)))
      exact q_post (v':=lsV H 1 (T c.bs.length).length) (.inr rfl) (by simp; exact Rz) (le_ls (fun x=>x) (fun _ _=>rfl) (fun _ _ h=>h) (iv_plain _) hv (fun i hi=>by have:=hvi i hi; omega)) ⟨rfl,rfl⟩
theorem ls_int (H : Heap) (l : List Int) : IAt (H++lsO l.length (iv l)) (lsV H 1 l.length) l:=(ls_at H (by rw [iv_length,Nat.mul_one])).l.r
theorem ls_id {H : Heap} {sz n i : Nat} (h : isId (lsV H sz n) i) : i=H.length:=by
  unfold lsV at h
  split at h
  · exact h.elim
  · exact Eq.symm h
set_option maxHeartbeats 1000000 in
theorem c_thinPairs (w : Bool) (H : Heap) (c : Cv) (p : Plc) (n : Nat) (hp : CvAt H c p) (hc : c.ok n) (pl : AV) (L : Nat→List Int) (hpl : PlAt H pl c.hs.length L) (hL : ∀ k,k < c.hs.length→((L k).length : Int) < 1000000) (hn : n≤12) :
    ACalls Try.prog F.qbr [.agg (c.tv p w),pl] H (fun v h'=>v=lsV H 2 (thP c (endT w c) (inP L) c.hs.length).length∧h'=H++lsO (thP c (endT w c) (inP L) c.hs.length).length (pv (thP c (endT w c) (inP L) c.hs.length))):=by
  have hp1:=hp.t
  have hp2:=rd_lt hp.b
  have hp3:=rd_lt hp.h
  have hlen:=hc.len
  have h8:=hc.hours.2
  have ct:=fun G h hh=>c_thin w (H++G) c p n (hp.app G) hc pl L (hpl.app G) hL h hh hn
  obtain ⟨pid,poff,pex,rfl,hpid,hrow⟩:=hpl.get
  have hS : ∀ h,thP c (endT w c) (inP L) (h+1)=thP c (endT w c) (inP L) h++(thL c (endT w c) (inP L) h c.bs.length).map fun s=>((h : Int),s):=fun h=>rfl
  have hP0 : thP c (endT w c) (inP L) 0=[]:=rfl
  have hln:=fun h=>thL_len c (endT w c) (inP L) h c.bs.length
  have hpn:=thP_len c (endT w c) (inP L)
  generalize thP c (endT w c) (inP L)=T at *
  generalize hte : (fun h=>thL c (endT w c) (inP L) h c.bs.length)=te
  have hte : ∀ h,thL c (endT w c) (inP L) h c.bs.length=te h:=fun s=>by rw [← hte]
  simp only [hte] at *
  simp only [Cv.tv,Cv.av] at *
  refine acalls_of ok_qbr rfl fun hcl=>?_
  unfold ac_qbr zo
  simp only [argsT,Nat.zero_add,Nat.reduceAdd]
  repeat (first|(with_reducible first|apply X1|apply X2|apply X6|apply X8)|((with_reducible apply e_end);(simp;exact Rz))|((with_reducible apply O1);rfl;(simp (disch:=omega);exact Rz);exact Rz;(focus (first|(simp;done)|omega|(simp;omega)))))
  refine e_loop (ι:={ x : Nat × AV × Heap // x.1≤c.hs.length∧AAt (H++(AObj.cells (c.tv p w) true :: x.2.2)) 2 x.2.1 (pv (T x.1)) (T x.1).length∧∀ i,isId x.2.1 i→H.length+1≤i })
    (fun x=>[(1,.slice pid poff c.hs.length 1 pex),(2,.ptr H.length 0),(5,x.1.2.1),(13,.int .i64 c.hs.length),(14,.int .i64 x.1.1)])
    (fun x=>H++(AObj.cells (c.tv p w) true :: x.1.2.2)) (fun x=>c.hs.length - x.1.1) ⟨(0,.nilslice,[]),by simp,by rw [hP0]; exact AAt.nil _ _,fun i hi=>hi.elim⟩ ?_ ?_
  · exact .inl rfl
  · rintro ⟨⟨h,v,G⟩,hi,hv,hvi⟩
    dsimp only at hi hv hvi ⊢
    by_cases hlt : h < c.hs.length
    · have hlt2 : (h : Int) < c.hs.length:=by omega
      have hln:=hln h
      have hS:=hS h
      have hpn1:=hpn h
      have hpn2:=hpn (h+1)
      have hnm : h * c.bs.length≤8 * 12:=Nat.mul_le_mul (by omega) (by omega)
      generalize hl : te h=l at *
      have ct1:=fun G=>ct G h hlt
      rw [hl] at ct1
      simp only [Cv.tv] at *
      repeat (first|(with_reducible first|apply X1|apply X2|apply X5|apply X6|apply X8)|((with_reducible apply e_end);(simp;exact Rz))|((with_reducible apply O1);rfl;(simp (disch:=omega) [hlt2];exact Rz);exact Rz;(focus (first|(simp;done)|omega|(simp;omega))))|((with_reducible apply Z9);(simp (disch:=omega) [hlt2];exact Rz)))
      (with_reducible apply e_call); (simp; exact Rz); exact ct1 _
      rintro _ _ ⟨rfl,rfl⟩
      skip
      have hti:=ls_int (H++(AObj.cells (c.tv p w) true :: G)) l
      have hli : ∀ i,isId (lsV (H++(AObj.cells (c.tv p w) true :: G)) 1 l.length) i→¬ isId v i:=fun i h1 h2=>by
        have:=ls_id h1
        have:=hv.l.lt h2
        simp only [Cv.tv] at *
        omega
      have hlo : ∀ i,isId (lsV (H++(AObj.cells (c.tv p w) true :: G)) 1 l.length) i→H.length+1≤i:=fun i h1=>by
        have:=ls_id h1; simp at this; omega
      have hv1:=hv.app (lsO l.length (iv l))
      simp only [Cv.tv,List.append_assoc,List.cons_append] at hti hli hlo hv1
      generalize lsV (H++AObj.cells _ true :: G) 1 l.length=tv at *
      generalize lsO l.length (iv l)=G1 at *
      (with_reducible apply e_op); rfl; exact RAt.len hti _ (by simp); exact Rz; trivial
      repeat (first|(with_reducible first|apply X6|apply X8)|((with_reducible apply e_end);(simp;exact Rz))|((with_reducible apply O1);rfl;(simp (disch:=omega);exact Rz);exact Rz;(focus (first|(simp;done)|omega|(simp;omega)))))
      refine e_loop (ι:={ x : Nat × AV × Heap // x.1≤l.length∧AAt (H++(AObj.cells (c.tv p w) true :: x.2.2)) 2 x.2.1 (pv (T h++(l.take x.1).map fun s=>((h : Int),s))) ((T h).length+x.1)∧(∀ i,isId x.2.1 i→H.length+1≤i)∧IAt (H++(AObj.cells (c.tv p w) true :: x.2.2)) tv l∧∀ i,isId tv i→¬ isId x.2.1 i })
        (fun x=>[(1,.slice pid poff c.hs.length 1 pex),(2,.ptr H.length 0),(5,x.1.2.1),(6,.int .i64 h),(13,.int .i64 c.hs.length),(14,.int .i64 h),(20,tv),(21,.int .i64 l.length),(22,.int .i64 x.1.1)])
        (fun x=>H++(AObj.cells (c.tv p w) true :: x.1.2.2)) (fun x=>l.length - x.1.1) ⟨(0,v,G++G1),by simp,by simpa [Cv.tv] using hv1,hvi,by simpa [Cv.tv] using hti,hli⟩ ?_ ?_
      · simp only [Cv.tv]; exact .inl rfl
      · rintro ⟨⟨j,v,G⟩,hj,hv,hvi,hti,hli⟩
        dsimp only at hj hv hvi hti hli ⊢
        simp only [Cv.tv] at *
        by_cases hjl : j < l.length
        · have hjl2 : (j : Int) < l.length:=by omega
          obtain ⟨id,off,ex,rfl,hx,hid⟩:=IAt.get hti hjl
          have ht1 : l.take (j+1)=l.take j++[l[j]]:=by rw [List.take_succ_eq_append_getElem hjl]
          generalize l[j]=s at *
          repeat (first|(with_reducible first|apply X1|apply X2|apply X5|apply X6|apply X8)|((with_reducible apply e_end);(simp;exact Rz))|((with_reducible apply O1);rfl;(simp (disch:=omega) [hjl,hjl2,hx];exact Rz);exact Rz;(focus (first|(simp;done)|omega|(simp;omega))))|((with_reducible apply Z9);(simp (disch:=omega) [hjl,hjl2,hx];exact Rz)))
          refine e_appA (A:=H++[.cells (c.tv p w) true]) (G:=G++[.cells [.int .i64 (h : Int),.int .i64 s] true])
            (cs:=pv (T h++(l.take j).map fun s=>((h : Int),s))) (n:=(T h).length+j) (m:=1) (new:=[.int .i64 (h : Int),.int .i64 s]) (by simp [Cv.tv]) (by simp; exact Rz) (by simp; exact Rz) (by have:=hv.app [.cells [.int .i64 (h : Int),.int .i64 s] true]; simpa using this) (fun k hk=>by have:=hvi k hk; simp; omega) (by simp) (by simp) (by omega) (by omega) ?_
          intro G2 v2 e3 e4 e5 e6 e7
          simp only [Cv.tv,List.append_assoc,List.cons_append,List.nil_append] at e3 e4 e5 e6 e7 ⊢
          have hti2 : IAt (H++AObj.cells _ true :: G2) (.slice id off l.length 1 ex) l:=RAt.keep (RAt.app hti [.cells [.int .i64 (h : Int),.int .i64 s] true]) (fun i hi=>by
            have : id=i:=hi
            subst this
            have:=e5 id (by simp at hid ⊢; omega) (hli id rfl)
            simpa using this)
          repeat (first|(with_reducible first|apply X2|apply X8|apply Y2)|((with_reducible apply e_end);(simp;exact Rz))|((with_reducible apply O1);rfl;(simp (disch:=omega);exact Rz);exact Rz;(focus (first|(simp;done)|omega|(simp;omega)))))
          refine q_again ⟨(j+1,v2,G2),by omega,?_,?_,hti2,?_⟩ (by dsimp only; omega) (.inl ?_)
          · rw [ht1,List.map_append,← List.append_assoc,pv_app]; exact e3
          · intro k hk; have:=e4 k hk; simpa using this
          · intro i hi h2
            have h3 : id=i:=hi
            have:=e6 i h2
            simp at hid this; omega
          · simp
        · have hjl2 : ¬ (j : Int) < l.length:=by omega
          obtain rfl : j=l.length:=by omega
          repeat (first|(with_reducible first|apply X1|apply X2|apply X4|apply X8|apply Y1|apply Y2|apply Y4|apply Y6)|((with_reducible apply e_end);(simp;exact Rz))|((with_reducible apply O1);rfl;(simp (disch:=omega) [hjl2];exact Rz);exact Rz;(focus (first|(simp;done)|omega|(simp;omega))))|((with_reducible apply W3);(simp (disch:=omega) [hjl2];exact Rz)))
          refine q_again ⟨(h+1,v,G),by omega,?_,hvi⟩ (by dsimp only; omega) (.inl ?_)
          · rw [hS,List.length_append,List.length_map]
            rw [List.take_length] at hv
            exact hv
          · simp
    · have hlt2 : ¬ (h : Int) < c.hs.length:=by omega
      obtain rfl : h=c.hs.length:=by omega
      simp only [Cv.tv]
      repeat (first|(with_reducible first|apply X1|apply X2|apply X3|apply X4|apply X8|apply Y1|apply Y4|apply Y6)|((with_reducible apply e_end);(simp;exact Rz))|((with_reducible apply O1);rfl;(simp (disch:=omega) [hlt2];exact Rz);exact Rz;(focus (first|(simp;done)|omega|(simp;omega))))|((with_reducible apply W3);(simp (disch:=omega) [hlt2];exact Rz)))
      simp only [Cv.tv] at hv
      exact q_post (v':=lsV H 2 (T c.hs.length).length) (.inr rfl) (by simp; exact Rz) (le_ls (fun x=>x) (fun _ _=>rfl) (fun _ _ h=>h) (pv_plain _) hv (fun i hi=>by have:=hvi i hi; omega)) ⟨rfl,rfl⟩
theorem c_hands (H : Heap) (c : Cv) (p : Plc) (hp : CvAt H c p) (h : Nat) (hh : h < c.hs.length) (hn : (c.hs.length : Int) < 1000000) :
    ACalls Try.prog F.qam [.agg (c.av p),.int .i64 h] H (fun v h'=>v=.int .i64 (handsF c h)∧h'=H):=by
  have hp1:=hp.t
  have hp2:=rd_lt hp.b
  have hp3:=rd_lt hp.h
  have hx:=rd_sub' (hp.hour hh) 4 1 (by omega)
  have hy:=rd_sub' (hp.hour hh) 3 1 (by omega)
  simp only [handsF]
  generalize c.h h=hr at *
  obtain ⟨z1,z2,z3,z4,z5⟩:=hr
  simp only [Cv.av,Hr.av,List.drop_succ_cons,List.drop_zero,List.take_succ_cons,List.take_zero] at *
  refine acalls_of ok_qam rfl fun hcl=>?_
  unfold ac_qam zo
  simp only [argsT,Nat.zero_add,Nat.reduceAdd]
  cases z5 with
  | false =>
    repeat (first|(with_reducible first|apply X1|apply X2|apply X3|apply X8|apply X9)|((with_reducible apply e_end);(simp;exact Rz))|((with_reducible apply O1);rfl;(simp (disch:=omega) [rd_old _ hp3,hx,hh];exact Rz);exact Rz;(focus (first|(simp;done)|omega|(simp;omega))))|((with_reducible apply Z9);(simp (disch:=omega) [rd_old _ hp3,hx,hh];exact Rz)))
    refine q_drop (.inr rfl) (by simp; exact Rz) (by simp) ⟨by simp,rfl⟩
  | true =>
    repeat (first|(with_reducible first|apply X1|apply X2|apply X3|apply X5|apply X8)|((with_reducible apply e_end);(simp;exact Rz))|((with_reducible apply O1);rfl;(simp (disch:=omega) [rd_old _ hp3,hx,hy,hh];exact Rz);exact Rz;(focus (first|(simp;done)|omega|(simp;omega))))|((with_reducible apply W3);(simp (disch:=omega) [rd_old _ hp3,hx,hy,hh];exact Rz)))
    refine q_drop (.inr rfl) (by simp; exact Rz) (by simp) ⟨by simp,rfl⟩
theorem cv_chosen (H : Heap) (v : AV) (l : List Int) (n : Nat) (hl : IAt H v l) (hn : (l.length : Int) < 1000000) (hn2 : (n : Int) < 1000000) {b : Bool} (hb : b=true↔okL n l) :
    ACalls Try.prog F.qak [v,.int .i64 n] H (fun v h'=>v=.bool b∧h'=H):=by
  have hsc : ∀ k,v.sc (H.length+k)=true:=fun k=>RAt.sc hl (by omega)
  refine acalls_of ok_qak rfl fun hcl=>?_
  unfold ac_qak zo
  simp only [argsT,Nat.zero_add,Nat.reduceAdd]
  repeat (first|(with_reducible first|apply X1|apply X2|apply X8)|((with_reducible apply e_end);(simp;exact Rz))|((with_reducible apply O1);rfl;(simp (disch:=omega);exact Rz);exact Rz;(focus (first|(simp;done)|omega|(simp;omega)))))
  (with_reducible apply e_op); rfl; exact RAt.len hl _ (by simp); exact Rz; trivial
  repeat (first|(with_reducible first|apply X6|apply X8)|((with_reducible apply e_end);(simp;exact Rz))|((with_reducible apply O1);rfl;(simp (disch:=omega);exact Rz);exact Rz;(focus (first|(simp;done)|omega|(simp;omega)))))
  refine e_loop (ι:={ i : Nat // i≤l.length∧∀ j (hj : j < l.length),j < i→(0≤l[j]∧l[j] < n)∧∀ _ : 0 < j,(l[j - 1]'(by omega)) < l[j] })
    (fun i=>[(0,v),(1,.int .i64 n),(7,v),(8,.int .i64 l.length),(9,.int .i64 i.1)]) (fun _=>H) (fun i=>l.length - i.1) ⟨0,by simp⟩ ?_ ?_
  · exact .inr <| le_id (by simp; exact hsc 0)
  · rintro ⟨i,hi1,hi2⟩
    dsimp only
    by_cases hlt : i < l.length
    · have hlt2 : (i : Int) < l.length:=by omega
      have hy:=fun h0 : 0 < i=>IAt.get hl (show i - 1 < l.length by omega)
      obtain ⟨id,off,ex,rfl,hx,hid⟩:=IAt.get hl hlt
      have no : ¬ ((0≤l[i]∧l[i] < n)∧∀ _ : 0 < i,(l[i - 1]'(by omega)) < l[i])→AV.bool false=AV.bool b:=fun h=>by
        rw [AV.bool.injEq]; cases b; rfl
        exact absurd (hb.1 rfl i hlt) h
      have nx : ((0≤l[i]∧l[i] < n)∧∀ _ : 0 < i,(l[i - 1]'(by omega)) < l[i])→∀ j (hj : j < l.length),j < i+1→(0≤l[j]∧l[j] < n)∧∀ _ : 0 < j,(l[j - 1]'(by omega)) < l[j]:=fun h j hj hji=>by
        rcases Nat.lt_or_ge j i with h1 | h1
        · exact hi2 j hj h1
        · obtain rfl : j=i:=by omega
          exact h
      obtain ⟨b1,h1⟩:=bof (0≤l[i]∧l[i]≤(n : Int) - 1)
      repeat (first|(with_reducible first|apply X1|apply X2|apply X5|apply X6|apply X8)|((with_reducible apply e_end);(simp;exact Rz))|((with_reducible apply O1);rfl;(simp (disch:=omega) [hlt,hlt2,hx];exact Rz);exact Rz;(focus (first|(simp;done)|omega|(simp;omega))))|((with_reducible apply Z9);(simp (disch:=omega) [hlt,hlt2,hx];exact Rz)))
      (with_reducible apply e_call); (simp; exact Rz); exact c_upto _ _
      rintro _ _ ⟨rfl,rfl⟩
      repeat ((with_reducible apply O1);rfl;(simp (disch:=omega);exact Rz);exact Rz;(focus (first|(simp;done)|omega|(simp;omega))))
      (with_reducible apply e_call); (simp; exact Rz); exact c_within1 _ _ _ _ _ _ _ h1 (by simp)
      rintro _ _ ⟨rfl,rfl⟩
      cases b1 with
      | false =>
        repeat (first|(with_reducible first|apply X1|apply X2|apply X3|apply X8|apply X9|apply Y3|apply Y5)|((with_reducible apply e_end);(simp;exact Rz))|((with_reducible apply O1);rfl;(simp (disch:=omega);exact Rz);exact Rz;(focus (first|(simp;done)|omega|(simp;omega))))|((with_reducible apply Z9);(simp (disch:=omega);exact Rz))|((with_reducible apply Z2);(simp (disch:=omega);exact Rz))|((with_reducible apply W1);(simp (disch:=omega);exact Rz)))
        refine q_drop (.inr rfl) (by simp; exact Rz) (by simp) ⟨no (fun h=>by have:=h1.2 ⟨h.1.1,by omega⟩; cases this),rfl⟩
      | true =>
        have h1:=h1.1 rfl
        by_cases h0 : 0 < i
        · have h02 : (0 : Int) < i:=by omega
          obtain ⟨id',off',ex',e1,hy,_⟩:=hy h0
          cases e1
          have hi1 : ((i : Int) - 1).toNat=i - 1:=by omega
          have hi3 : (0 : Int)≤(i : Int) - 1:=by omega
          have hi4 : (i : Int) - 1 < l.length:=by omega
          by_cases hk : l[i]≤(l[i - 1]'(by omega))
          · repeat (first|(with_reducible first|apply X1|apply X2|apply X3|apply X8|apply X9|apply Y3|apply Y5)|((with_reducible apply e_end);(simp;exact Rz))|((with_reducible apply O1);rfl;(simp (disch:=omega) [h0,h02,rd_old _ hid,hy,hk,hi1,hi3,hi4];exact Rz);exact Rz;(focus (first|(simp;done)|omega|(simp;omega))))|((with_reducible first|apply Z7|apply Z9);(simp (disch:=omega) [h0,h02,rd_old _ hid,hy,hk,hi1,hi3,hi4];exact Rz)))
            refine q_drop (.inr rfl) (by simp; exact Rz) (by simp) ⟨no (fun h=>by have:=h.2 h0; omega),rfl⟩
          · repeat (first|(with_reducible first|apply X2|apply X5|apply X8|apply Y2)|((with_reducible apply e_end);(simp;exact Rz))|((with_reducible apply O1);rfl;(simp (disch:=omega) [h0,h02,rd_old _ hid,hy,hk,hi1,hi3,hi4];exact Rz);exact Rz;(focus (first|(simp;done)|omega|(simp;omega))))|((with_reducible apply Z7);(simp (disch:=omega) [h0,h02,rd_old _ hid,hy,hk,hi1,hi3,hi4];exact Rz))|((with_reducible apply W3);(simp (disch:=omega) [h0,h02,rd_old _ hid,hy,hk,hi1,hi3,hi4];exact Rz)))
            refine q_again ⟨i+1,hlt,nx ⟨⟨h1.1,by omega⟩,fun _=>by omega⟩⟩ (by dsimp only; omega) (.inr (le_drop (by simp [hid])))
        · have h02 : ¬ (0 : Int) < i:=by omega
          repeat (first|(with_reducible first|apply X2|apply X5|apply X8|apply Y2)|((with_reducible apply e_end);(simp;exact Rz))|((with_reducible apply O1);rfl;(simp (disch:=omega) [h0,h02];exact Rz);exact Rz;(focus (first|(simp;done)|omega|(simp;omega))))|((with_reducible apply Z7);(simp (disch:=omega) [h0,h02];exact Rz))|((with_reducible apply Z1);(simp (disch:=omega) [h0,h02];exact Rz))|((with_reducible apply W3);(simp (disch:=omega) [h0,h02];exact Rz)))
          refine q_again ⟨i+1,hlt,nx ⟨⟨h1.1,by omega⟩,fun h=>absurd h h0⟩⟩ (by dsimp only; omega) (.inr (le_drop (by simp [hid])))
    · have hlt2 : ¬ (i : Int) < l.length:=by omega
      repeat (first|(with_reducible first|apply X1|apply X2|apply X3|apply X4|apply X8|apply Y1|apply Y4|apply Y6)|((with_reducible apply e_end);(simp;exact Rz))|((with_reducible apply O1);rfl;(simp (disch:=omega) [hlt2];exact Rz);exact Rz;(focus (first|(simp;done)|omega|(simp;omega))))|((with_reducible apply W3);(simp (disch:=omega) [hlt2];exact Rz)))
      refine q_drop0 (.inr rfl) (by simp; exact Rz) (by simp) ⟨by rw [AV.bool.injEq]; exact (hb.2 fun j hj=>hi2 j hj (by omega)).symm,rfl⟩
def plE (l : List Str) (c : Cv) (n : Nat) (L : Nat→List Int) (e : Int) : Prop :=
  (validL l∧c.ok l.length∧(n=c.hs.length∧okPl c L)∧e=0)∨(¬ (validL l∧c.ok l.length)∧chkE l c e∧e ≠ 0)∨(validL l∧c.ok l.length∧¬ (n=c.hs.length∧okPl c L)∧e=21)
theorem c_checkPlan (H : Heap) (l : List Str) (c : Cv) (p : Plc) (hp : CvAt H c p) (ht : TrAt H l p) (hn : (l.length : Int) < 1000000) (hn1 : (c.bs.length : Int) < 1000000) (hn2 : (c.hs.length : Int) < 1000000)
    (pl : AV) (n : Nat) (L : Nat→List Int) (hpl : PlAt H pl n L) (hL : ∀ k,k < n→((L k).length : Int) < 1000000) (hn3 : (n : Int) < 1000000) :
    ACalls Try.prog F.qaj [.agg (c.av p),pl] H (fun v h'=>h'=H∧∃ e : Int,v=.int .i64 e∧plE l c n L e):=by
  have hp1:=hp.t
  have hp2:=rd_lt hp.b
  have hp3:=rd_lt hp.h
  have k0:=fun G=>c_iCheck (H++G) l c p (hp.app G) (ht.app G) hn hn1 hn2
  have k1:=fun G h hh=>c_hands (H++G) c p (hp.app G) h hh hn2
  obtain ⟨pid,poff,pex,rfl,hpid,hrow⟩:=hpl.get
  simp only [Cv.av] at *
  refine acalls_of ok_qaj rfl fun hcl=>?_
  unfold ac_qaj zo
  simp only [argsT,Nat.zero_add,Nat.reduceAdd]
  repeat (first|(with_reducible first|apply X1|apply X2|apply X8)|((with_reducible apply e_end);(simp;exact Rz))|((with_reducible apply O1);rfl;(simp (disch:=omega);exact Rz);exact Rz;(focus (first|(simp;done)|omega|(simp;omega)))))
  (with_reducible apply e_call); (simp; exact Rz); exact k0 _
  rintro _ _ ⟨rfl,e,rfl,hv | hv⟩
  rotate_left
  · have he : e ≠ 0:=by rcases hv with h | h <;> omega
    have hno : ¬ (validL l∧c.ok l.length):=by rintro ⟨h1,h2⟩; exact hv.elim (fun h=>h.1 h1) (fun h=>h.2.1 h2)
    repeat (first|(with_reducible first|apply X1|apply X2|apply X3|apply X8|apply X9)|((with_reducible apply e_end);(simp;exact Rz))|((with_reducible apply O1);rfl;(simp (disch:=omega) [he];exact Rz);exact Rz;(focus (first|(simp;done)|omega|(simp;omega))))|((with_reducible apply Z9);(simp (disch:=omega) [he];exact Rz)))
    refine q_drop (.inr rfl) (by simp; exact Rz) (by simp) ⟨rfl,e,rfl,.inr (.inl ⟨hno,.inr hv,he⟩)⟩
  · obtain ⟨hv,hc,rfl⟩:=hv
    by_cases hnl : n=c.hs.length
    rotate_left
    · have hnl2 : ¬ (n : Int)=c.hs.length:=by omega
      repeat (first|(with_reducible first|apply X1|apply X2|apply X3|apply X5|apply X8|apply X9)|((with_reducible apply e_end);(simp;exact Rz))|((with_reducible apply O1);rfl;(simp (disch:=omega) [hnl2];exact Rz);exact Rz;(focus (first|(simp;done)|omega|(simp;omega))))|((with_reducible apply Z9);(simp (disch:=omega) [hnl2];exact Rz))|((with_reducible apply W3);(simp (disch:=omega) [hnl2];exact Rz)))
      refine q_drop (.inr rfl) (by simp; exact Rz) (by simp) ⟨rfl,21,rfl,.inr (.inr ⟨hv,hc,fun h=>hnl h.1,rfl⟩)⟩
    · subst hnl
      repeat (first|(with_reducible first|apply X1|apply X2|apply X5|apply X6|apply X8)|((with_reducible apply e_end);(simp;exact Rz))|((with_reducible apply O1);rfl;(simp (disch:=omega);exact Rz);exact Rz;(focus (first|(simp;done)|omega|(simp;omega))))|((with_reducible apply W3);(simp (disch:=omega);exact Rz)))
      refine e_loop (ι:={ i : Nat // i≤c.hs.length∧∀ h,h < c.hs.length→h < i→((L h).length : Int)≤handsF c h∧okL c.bs.length (L h) })
        (fun i=>[(2,.ptr H.length 0),(19,.slice pid poff c.hs.length 1 pex),(20,.int .i64 c.hs.length),(21,.int .i64 i.1)])
        (fun _=>H++[.cells (c.av p) true]) (fun i=>c.hs.length - i.1) ⟨0,by simp⟩ ?_ ?_
      · simp only [Cv.av]; exact .inl rfl
      · rintro ⟨i,hi1,hi2⟩
        simp only [Cv.av]
        by_cases hlt : i < c.hs.length
        · have hlt2 : (i : Int) < c.hs.length:=by omega
          obtain ⟨x,hx,hix⟩:=hrow i hlt
          have hxs' : ∀ k,x.sc (H.length+k)=true:=fun k=>RAt.sc hix (by omega)
          have no : ¬ (((L i).length : Int)≤handsF c i∧okL c.bs.length (L i))→plE l c c.hs.length L 21:=fun h=>.inr (.inr ⟨hv,hc,fun h2=>h (h2.2 i hlt),rfl⟩)
          obtain ⟨b1,h1⟩:=bof (okL c.bs.length (L i))
          repeat (first|(with_reducible first|apply X1|apply X2|apply X5|apply X6|apply X8)|((with_reducible apply e_end);(simp;exact Rz))|((with_reducible apply O1);rfl;(simp (disch:=omega) [hlt,hlt2,rd_old _ hpid,hx];exact Rz);exact Rz;(focus (first|(simp;done)|omega|(simp;omega))))|((with_reducible apply Z9);(simp (disch:=omega) [hlt,hlt2,rd_old _ hpid,hx];exact Rz)))
          (with_reducible apply e_op); rfl; exact RAt.len hix _ (by simp); exact Rz; trivial
          repeat ((with_reducible apply O1);rfl;(simp (disch:=omega);exact Rz);exact Rz;(focus (first|(simp;done)|omega|(simp;omega))))
          (with_reducible apply e_call); (simp; exact Rz); exact k1 _ i hlt
          rintro _ _ ⟨rfl,rfl⟩
          by_cases hk : handsF c i < (L i).length
          · repeat (first|(with_reducible first|apply X1|apply X2|apply X3|apply X8|apply X9|apply Y3|apply Y5)|((with_reducible apply e_end);(simp;exact Rz))|((with_reducible apply O1);rfl;(simp (disch:=omega) [hk];exact Rz);exact Rz;(focus (first|(simp;done)|omega|(simp;omega))))|((with_reducible apply Z9);(simp (disch:=omega) [hk];exact Rz))|((with_reducible apply Z2);(simp (disch:=omega) [hk];exact Rz)))
            refine q_drop (.inr rfl) (by simp; exact Rz) (by simp) ⟨rfl,21,rfl,no fun h=>by omega⟩
          · repeat (first|((with_reducible apply O1);rfl;(simp (disch:=omega) [hk];exact Rz);exact Rz;(focus (first|(simp;done)|omega|(simp;omega))))|((with_reducible apply Z7);(simp (disch:=omega) [hk];exact Rz)))
            (with_reducible apply e_call); (simp; exact Rz); exact cv_chosen _ x (L i) c.bs.length (RAt.app hix _) (hL i hlt) hn1 h1
            rintro _ _ ⟨rfl,rfl⟩
            cases b1 with
            | false =>
              repeat (first|(with_reducible first|apply X1|apply X2|apply X3|apply X8|apply X9|apply Y3|apply Y5)|((with_reducible apply e_end);(simp;exact Rz))|((with_reducible apply O1);rfl;(simp (disch:=omega);exact Rz);exact Rz;(focus (first|(simp;done)|omega|(simp;omega))))|((with_reducible first|apply Z7|apply Z9);(simp (disch:=omega);exact Rz)))
              refine q_drop (.inr rfl) (by simp; exact Rz) (by simp) ⟨rfl,21,rfl,no fun h=>by have:=h1.2 h.2; cases this⟩
            | true =>
              repeat (first|(with_reducible first|apply X2|apply X5|apply X8|apply Y2)|((with_reducible apply e_end);(simp;exact Rz))|((with_reducible apply O1);rfl;(simp (disch:=omega);exact Rz);exact Rz;(focus (first|(simp;done)|omega|(simp;omega))))|((with_reducible apply Z7);(simp (disch:=omega);exact Rz))|((with_reducible apply W3);(simp (disch:=omega);exact Rz)))
              refine q_again ⟨i+1,hlt,?_⟩ (by dsimp only; omega) (.inl ?_)
              · intro j hj hji
                rcases Nat.lt_or_ge j i with h | h
                · exact hi2 j hj h
                · obtain rfl : j=i:=by omega
                  exact ⟨by omega,h1.1 rfl⟩
              · simp
        · have hlt2 : ¬ (i : Int) < c.hs.length:=by omega
          repeat (first|(with_reducible first|apply X1|apply X2|apply X3|apply X4|apply X8|apply Y1|apply Y4|apply Y6)|((with_reducible apply e_end);(simp;exact Rz))|((with_reducible apply O1);rfl;(simp (disch:=omega) [hlt2];exact Rz);exact Rz;(focus (first|(simp;done)|omega|(simp;omega))))|((with_reducible apply W3);(simp (disch:=omega) [hlt2];exact Rz)))
          refine q_drop (.inr rfl) (by simp; exact Rz) (by simp) ⟨rfl,0,rfl,.inl ⟨hv,hc,⟨rfl,fun h hh=>hi2 h hh (by omega)⟩,rfl⟩⟩
theorem c_worst (H : Heap) (c : Cv) (p : Plc) (hp : CvAt H c p) : ACalls Try.prog F.qas [.agg (c.av p)] H (fun v h'=>v=.agg (c.tv p true)∧h'=H):=by
  have hp1:=hp.t
  have hp2:=rd_lt hp.b
  have hp3:=rd_lt hp.h
  simp only [Cv.av,Cv.tv,mdF,tnF,if_true]
  refine acalls_of ok_qas rfl fun hcl=>?_
  unfold ac_qas zo
  simp only [argsT,Nat.zero_add,Nat.reduceAdd]
  repeat (first|(with_reducible first|apply X1|apply X2|apply X3|apply X8)|((with_reducible apply e_end);(simp;exact Rz))|((first|((with_reducible apply O1);rfl)|((with_reducible apply O2);rfl));(simp (disch:=omega);exact Rz);exact Rz;(focus (first|(simp;done)|omega|(simp;omega)))))
  refine q_drop (.inr rfl) (by simp; exact Rz) (by simp; omega) ⟨rfl,rfl⟩
theorem c_truths (H : Heap) (c : Cv) (p : Plc) (hp : CvAt H c p) : ACalls Try.prog F.qaq [.agg (c.av p)] H (fun v h'=>v=.fn (.func F.qar) [] [.ptr H.length 0]∧h'=H++[.cells (c.av p) true]):=by
  have hp1:=hp.t
  have hp2:=rd_lt hp.b
  have hp3:=rd_lt hp.h
  simp only [Cv.av]
  refine acalls_of ok_qaq rfl fun hcl=>?_
  unfold ac_qaq zo
  simp only [argsT,Nat.zero_add,Nat.reduceAdd]
  repeat (first|(with_reducible first|apply X1|apply X2|apply X3|apply X8)|((with_reducible apply e_end);(simp;exact Rz))|((with_reducible apply O1);rfl;(simp (disch:=omega);exact Rz);exact Rz;(focus (first|(simp;done)|omega|(simp;omega)))))
  refine q_stay (.inr rfl) (by simp; exact Rz) ⟨rfl,rfl⟩
theorem c_truths1 (Y : Nat→Heap) (y pid : Nat) (c : Cv) (p : Plc) (hp : ∀ i,i≤1→CvAt (Y i) c p) (hpc : ∀ i,i≤1→(Y i)[pid]?=some (.cells (c.av p) true))
    (hy : ∀ i : Nat,i≤1→AYields Try.prog y [.int .i64 i,.agg (c.tv p (decide (i=0)))] (Y i) (fun v h'=>v=.bool true∧h'=Y (i+1))) :
    ACalls Try.prog F.qar [.yield y,.ptr pid 0] (Y 0) (fun _ h'=>h'=Y 2):=by
  have rdp : ∀ i,i≤1→rd (Y i) pid 0 10=some (c.av p):=by
    intro i hi
    unfold rd
    simp only [hpc i hi]
    rw [if_pos (by simp [Cv.av])]
    simp [Cv.av]
  have r0:=rdp 0 (by omega)
  have r1:=rdp 1 (by omega)
  have y0:=hy 0 (by omega)
  have y1:=hy 1 (by omega)
  have cw:=c_worst (Y 0) c p (hp 0 (by omega))
  simp only [Cv.av,Cv.tv,mdF,tnF,if_true,decide_true,decide_false,Nat.one_ne_zero,Bool.false_eq_true,if_false,Nat.zero_add,Nat.reduceAdd] at *
  refine acalls_of ok_qar rfl fun hcl=>?_
  unfold ac_qar zo
  simp only [argsT,Nat.zero_add,Nat.reduceAdd]
  repeat (first|(with_reducible first|apply X1|apply X2)|((with_reducible apply O1);rfl;(simp (disch:=omega) [r0];exact Rz);exact Rz;(focus (first|(simp;done)|omega|(simp;omega)))))
  (with_reducible apply e_call); (simp; exact Rz); exact cw
  rintro _ _ ⟨rfl,rfl⟩
  skip
  (with_reducible apply e_callY); (simp; exact Rz); (simp; exact Rz); exact y0
  rintro _ _ ⟨rfl,rfl⟩
  repeat (first|(with_reducible first|apply X2|apply X8)|((with_reducible apply e_end);(simp;exact Rz))|((with_reducible apply O1);rfl;(simp (disch:=omega) [r1];exact Rz);exact Rz;(focus (first|(simp;done)|omega|(simp;omega))))|((with_reducible apply Z9);(simp (disch:=omega) [r1];exact Rz)))
  (with_reducible apply e_callY); (simp; exact Rz); (simp; exact Rz); exact y1
  rintro _ _ ⟨rfl,rfl⟩
  repeat ((with_reducible apply e_end);(simp;exact Rz))
  exact q_stay (v:=.tuple []) (.inl rfl) (by simp; exact Rz) rfl
def lossE (l : List Str) (c : Cv) (s h : Int) (lo hi e : Int) : Prop :=
  (¬ (validL l∧c.ok l.length)∧chkE l c e∧e ≠ 0∧lo=0∧hi=0)∨(validL l∧c.ok l.length∧¬ ((0≤s∧s < c.bs.length)∧0≤h∧h < c.hs.length)∧e=2∧lo=0∧hi=0) ∨
  (validL l∧c.ok l.length∧((0≤s∧s < c.bs.length)∧0≤h∧h < c.hs.length)∧e=0∧lo=lossF c (endT false c) s.toNat h.toNat∧hi=lossF c (endT true c) s.toNat h.toNat)
theorem e_truths {H : Heap} {Q : Exit→St→Prop} {t : List (Nat × AV)} {h : Heap} {f : AOpd} {ps : List Nat} {a b : AC} (c : Cv) (p : Plc) {pid : Nat} (Y1 Y2 : Heap) (hf : Red (f.ev t) (.fn (.func F.qar) [] [.ptr pid 0])) (ht : tSc h.length t=true) (hps : ps.length=2) (hc0 : CvAt h c p) (hb0 : h[pid]?=some (.cells (c.av p) true))
    (hy0 : ECode Try.prog (h++[.other (.loop t ps a b .ready)]) a (EBegin Try.prog (h++[.other (.loop t ps a b .ready)]) h.length b (fun v h'=>v=.bool true∧h'=Y1)) (roundT ps [.int .i64 0,.agg (c.tv p true)] t) (h++[.other (.loop t ps a b .ready)]))
    (hc1 : CvAt Y1 c p) (hb1 : Y1[pid]?=some (.cells (c.av p) true)) (hl1 : Y1[h.length]?=some (.other (.loop t ps a b .ready)))
    (hy1 : ECode Try.prog Y1 a (EBegin Try.prog Y1 h.length b (fun v h'=>v=.bool true∧h'=Y2)) (roundT ps [.int .i64 1,.agg (c.tv p false)] t) Y1)
    (hn : RangeEnd h.length t Q Y2) : ECode Try.prog H (.rangeFunc f ps a b) Q t h:=by
  have hl:=(List.getElem?_eq_some_iff.1 hb0).1
  refine e_range (R:=fun _ h'=>h'=Y2) hf ht Rz ?_ (by rintro _ _ rfl; exact hn)
  have key:=c_truths1 (fun i=>match i with | 0=>h++[.other (.loop t ps a b .ready)] | 1=>Y1 | _=>Y2) h.length pid c p (fun i hi=>by
      match i,hi with
      | 0,_=>exact hc0.app _
      | 1,_=>exact hc1) (fun i hi=>by
      match i,hi with
      | 0,_=>show (h++_)[pid]?=_; rw [List.getElem?_append_left hl]; exact hb0
      | 1,_=>exact hb1) (fun i hi=>by
      match i,hi with
      | 0,_=>exact y_of (by simp) hps.symm fun _=>hy0
      | 1,_=>exact y_of hl1 hps.symm fun _=>hy1)
  exact key
def thickE (l : List Str) (c : Cv) (n : Nat) (L : Nat→List Int) (s h : Int) (lo hi e : Int) : Prop :=
  (plE l c n L e∧e ≠ 0∧lo=0∧hi=0)∨(validL l∧c.ok l.length∧(n=c.hs.length∧okPl c L)∧¬ ((0≤s∧s < c.bs.length)∧0≤h∧h≤c.hs.length)∧e=2∧lo=0∧hi=0) ∨
  (validL l∧c.ok l.length∧(n=c.hs.length∧okPl c L)∧((0≤s∧s < c.bs.length)∧0≤h∧h≤c.hs.length)∧e=0∧lo=befF c (endT true c) (inP L) s.toNat h.toNat∧hi=befF c (endT false c) (inP L) s.toNat h.toNat)
theorem ls_len {ev : AOpd→AV} {x : AOpd} {H0 : Heap} {sz n : Nat} (hx : ev x=lsV H0 sz n) (h : Heap) : (AOp.len x).den ev h=.ok True (.int .i64 n) h:=by
  unfold lsV at hx
  split at hx <;> simp [AOp.den,hx]
  omega
def safeF (c : Cv) (L : Nat→List Int) : Int:=if thP c (endT false c) (inP L) c.hs.length ≠ [] then 0 else if thP c (endT true c) (inP L) c.hs.length ≠ [] then 1 else 2
theorem c_iSafeG (H : Heap) (l : List Str) (c : Cv) (p : Plc) (hp : CvAt H c p) (ht : TrAt H l p) (hn : (l.length : Int) < 1000000) (hn1 : (c.bs.length : Int) < 1000000) (hn2 : (c.hs.length : Int) < 1000000)
    (pl : AV) (n : Nat) (L : Nat→List Int) (hpl : PlAt H pl n L) (hL : ∀ k,k < n→((L k).length : Int) < 1000000) (hn3 : (n : Int) < 1000000) :
    ACalls Try.prog F.qaf [.agg (c.av p),pl] H (fun v h'=>h'=H∧∃ k e : Int,v=.tuple [.int .u8 k,.int .i64 e]∧((plE l c n L e∧e ≠ 0∧k=0)∨(validL l∧c.ok l.length∧(n=c.hs.length∧okPl c L)∧e=0∧k=safeF c L))):=by
  have k0:=fun G=>c_checkPlan (H++G) l c p (hp.app G) (ht.app G) hn hn1 hn2 pl n L (hpl.app G) hL hn3
  have kt:=fun G=>c_truths (H++G) c p (hp.app G)
  have hp1:=hp.t
  have hp2:=rd_lt hp.b
  have hp3:=rd_lt hp.h
  have hpa:=fun G=>hp.app G
  have hpla:=fun G=>hpl.app G
  obtain ⟨pid,poff,pex,rfl,hpid,hrow⟩:=hpl.get
  simp only [Cv.av] at *
  refine acalls_of ok_qaf rfl fun hcl=>?_
  unfold ac_qaf zo
  simp only [argsT,Nat.zero_add,Nat.reduceAdd]
  repeat (first|(with_reducible first|apply X1|apply X2|apply X8)|((with_reducible apply e_end);(simp;exact Rz))|((with_reducible apply O1);rfl;(simp (disch:=omega);exact Rz);exact Rz;(focus (first|(simp;done)|omega|(simp;omega)))))
  (with_reducible apply e_call); (simp; exact Rz); exact k0 _
  rintro _ _ ⟨rfl,e,rfl,hv⟩
  by_cases he : e=0
  rotate_left
  · repeat (first|(with_reducible first|apply X1|apply X2|apply X3|apply X8|apply X9)|((with_reducible apply e_end);(simp;exact Rz))|((with_reducible apply O1);rfl;(simp (disch:=omega) [he];exact Rz);exact Rz;(focus (first|(simp;done)|omega|(simp;omega))))|((with_reducible apply Z9);(simp (disch:=omega) [he];exact Rz)))
    refine q_drop (.inr rfl) (by simp; exact Rz) (by simp) ⟨rfl,0,e,rfl,.inl ⟨hv,he,rfl⟩⟩
  subst he
  obtain ⟨hv,hc,⟨rfl,hok⟩,_⟩ | h | h:=hv
  rotate_left
  · exact absurd rfl h.2.2
  · exact absurd h.2.2.2 (by decide)
  have h12:=hv.1
  have hlen:=hc.len
  have h8:=hc.hours
  have cl:=fun w G=>c_thinPairs w (H++G) c p _ (hpa G) hc _ L (hpla G) hL (by omega)
  have hln:=fun w=>pv_length (thP c (endT w c) (inP L) c.hs.length)
  have hsf : safeF c L=if thP c (endT false c) (inP L) c.hs.length ≠ [] then 0 else if thP c (endT true c) (inP L) c.hs.length ≠ [] then 1 else 2:=rfl
  generalize hT : (fun w=>thP c (endT w c) (inP L) c.hs.length)=T
  have hT : ∀ w,thP c (endT w c) (inP L) c.hs.length=T w:=fun w=>by rw [← hT]
  simp only [hT] at *
  have clt:=cl
  simp only [Cv.tv] at clt
  repeat (first|(with_reducible first|apply X1|apply X2|apply X5|apply X8)|((with_reducible apply e_end);(simp;exact Rz))|((with_reducible apply O1);rfl;(simp (disch:=omega);exact Rz);exact Rz;(focus (first|(simp;done)|omega|(simp;omega))))|((with_reducible apply W3);(simp (disch:=omega);exact Rz)))
  (with_reducible apply e_call); (simp; exact Rz); exact kt _
  rintro _ _ ⟨rfl,rfl⟩
  repeat (first|(with_reducible first|apply X6|apply X8)|((with_reducible apply e_end);(simp;exact Rz)))
  refine e_truths c p ?y1 ?y2 (by simp; exact Rz) (by simp [tSc]) rfl ?ca ?cb ?cc ?cd ?ce ?cf ?cg ?ch
  case ca=>simpa using hpa _
  case cb=>simp [Cv.av]
  case cc =>
    simp only [roundT,List.zip_cons_cons,List.zip_nil_left,List.foldl_cons,List.foldl_nil,List.zip_nil_right,Cv.tv]
    repeat (first|(with_reducible first|apply X1|apply X2|apply X8)|((with_reducible apply e_end);(simp;exact Rz))|((first|((with_reducible apply O1);rfl)|((with_reducible apply O2);rfl));(simp (disch:=omega);exact Rz);exact Rz;(focus (first|(simp;done)|omega|(simp;omega)))))
    refine q_begin (by simp [at_new]; exact Rz) (by simp [set_new]; exact Rz) ?_
    repeat (first|(with_reducible first|apply X2|apply X6)|((with_reducible apply O1);rfl;(simp (disch:=omega);exact Rz);exact Rz;(focus (first|(simp;done)|omega|(simp;omega)))))
    (with_reducible apply e_call); (simp; exact Rz); exact clt true _
    rintro _ _ ⟨rfl,rfl⟩
    (with_reducible apply e_op); rfl; exact ls_len (by simp; rfl) _; exact Rz; trivial
    repeat (first|(with_reducible apply Y2)|((with_reducible apply e_end);(simp;exact Rz))|((first|((with_reducible apply O1);rfl)|((with_reducible apply O2);rfl));(simp (disch:=omega);exact Rz);exact Rz;(focus (first|(simp;done)|omega|(simp;omega)))))
    exact q_end (by simp [at_new]; exact Rz) (by simp [set_new]; exact Rz) (.inl rfl) ⟨rfl,rfl⟩
  case cd=>simpa using hpa _
  case ce=>simp [Cv.av,at_new]
  case cf=>simp [at_new]
  case cg =>
    simp only [roundT,List.zip_cons_cons,List.zip_nil_left,List.foldl_cons,List.foldl_nil,List.zip_nil_right,Cv.tv]
    repeat (first|(with_reducible first|apply X1|apply X2|apply X8)|((with_reducible apply e_end);(simp;exact Rz))|((first|((with_reducible apply O1);rfl)|((with_reducible apply O2);rfl));(simp (disch:=omega);exact Rz);exact Rz;(focus (first|(simp;done)|omega|(simp;omega)))))
    refine q_begin (by simp [at_new]; exact Rz) (by simp [set_new]; exact Rz) ?_
    repeat (first|(with_reducible first|apply X2|apply X6)|((with_reducible apply O1);rfl;(simp (disch:=omega);exact Rz);exact Rz;(focus (first|(simp;done)|omega|(simp;omega)))))
    (with_reducible apply e_call); (simp; exact Rz); exact clt false _
    rintro _ _ ⟨rfl,rfl⟩
    (with_reducible apply e_op); rfl; exact ls_len (by simp; rfl) _; exact Rz; trivial
    repeat (first|(with_reducible apply Y2)|((with_reducible apply e_end);(simp;exact Rz))|((first|((with_reducible apply O1);rfl)|((with_reducible apply O2);rfl));(simp (disch:=omega);exact Rz);exact Rz;(focus (first|(simp;done)|omega|(simp;omega)))))
    exact q_end (by simp [at_new]; exact Rz) (by simp [set_new]; exact Rz) (.inl rfl) ⟨rfl,rfl⟩
  case ch =>
    refine range_end (by simp [at_new]; exact Rz) (by simp [set_new]; exact Rz) ?_
    repeat (first|(with_reducible first|apply X1|apply X2|apply X6|apply X8|apply Y2)|((with_reducible apply e_end);(simp;exact Rz))|((with_reducible apply O1);rfl;(simp (disch:=omega);exact Rz);exact Rz;(focus (first|(simp;done)|omega|(simp;omega)))))
    by_cases hf : 0 < (T false).length
    · have hf2 : T false ≠ []:=by intro h; rw [h] at hf; simp at hf
      repeat (first|(with_reducible first|apply X1|apply X2|apply X3|apply X8|apply X9|apply Y3)|((with_reducible apply e_end);(simp;exact Rz))|((with_reducible apply O1);rfl;(simp (disch:=omega) [hf];exact Rz);exact Rz;(focus (first|(simp;done)|omega|(simp;omega))))|((with_reducible apply Z9);(simp (disch:=omega) [hf];exact Rz)))
      refine q_drop (.inr rfl) (by simp; exact Rz) (by simp) ⟨rfl,0,0,rfl,.inr ⟨hv,hc,by simp [hok],rfl,by rw [hsf,if_pos hf2]⟩⟩
    · have hf2 : ¬ T false ≠ []:=by intro h; exact hf (List.length_pos_iff.2 h)
      by_cases hg : 0 < (T true).length
      · have hg2 : T true ≠ []:=by intro h; rw [h] at hg; simp at hg
        repeat (first|(with_reducible first|apply X1|apply X2|apply X3|apply X8|apply X9|apply Y3)|((with_reducible apply e_end);(simp;exact Rz))|((with_reducible apply O1);rfl;(simp (disch:=omega) [hf,hg];exact Rz);exact Rz;(focus (first|(simp;done)|omega|(simp;omega))))|((with_reducible apply Z9);(simp (disch:=omega) [hf,hg];exact Rz))|((with_reducible apply W3);(simp (disch:=omega) [hf,hg];exact Rz)))
        refine q_drop (.inr rfl) (by simp; exact Rz) (by simp) ⟨rfl,1,0,rfl,.inr ⟨hv,hc,by simp [hok],rfl,by rw [hsf,if_neg hf2,if_pos hg2]⟩⟩
      · have hg2 : ¬ T true ≠ []:=by intro h; exact hg (List.length_pos_iff.2 h)
        repeat (first|(with_reducible first|apply X1|apply X2|apply X3|apply X5|apply X8|apply Y2)|((with_reducible apply e_end);(simp;exact Rz))|((with_reducible apply O1);rfl;(simp (disch:=omega) [hf,hg];exact Rz);exact Rz;(focus (first|(simp;done)|omega|(simp;omega))))|((with_reducible apply W3);(simp (disch:=omega) [hf,hg];exact Rz)))
        refine q_drop (.inr rfl) (by simp; exact Rz) (by simp) ⟨rfl,2,0,rfl,.inr ⟨hv,hc,by simp [hok],rfl,by rw [hsf,if_neg hf2,if_neg hg2]⟩⟩
end Go.Proofs
