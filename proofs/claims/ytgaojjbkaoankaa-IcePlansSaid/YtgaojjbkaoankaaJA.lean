/- Several texts as one. -/
import Derived.Test.YtgaojjbkaoankaaDD
import Derived.Test.YtgaojjbkaoankaaAc1
/- Ice: covers,truths,and how thick ice is. -/
namespace Go.Proofs
open Go.Abs
attribute [local simp] AOp.den AOpd.ev lk cellsOf rd_new rd_new0 rd_zero rd_succ wr_new wr_new0 wr_zero wr_succ splice fillA binA scal sliceCells List.length_append argsT AV.sc scL AObj.sc resV getAll AR.get AOp.slots opdSlots opdsSlots partSlots eqAt at_new0 at_new set_new0 set_new wrap64
set_option linter.unusedSimpArgs false
set_option linter.unusedVariables false
structure Bd where
  lo:Int
  hi:Int
  sun:Int
structure Hr where
  m1:Int
  m2:Int
  runs:Int
  crew:Int
  cold:Bool
def Bd.av (b:Bd):List AV:=[.int .i64 b.lo,.int .i64 b.hi,.int .i64 b.sun]
def Hr.av (h:Hr):List AV:=[.int .i64 h.m1,.int .i64 h.m2,.int .i64 h.runs,.int .i64 h.crew,.bool h.cold]
theorem Bd.av_length (b:Bd):b.av.length=3:=rfl
theorem Hr.av_length (h:Hr):h.av.length=5:=rfl
def Bd.ok (b:Bd):Prop:=(b.lo≤b.hi∧0≤b.lo∧b.hi≤2000)∧0≤b.sun∧b.sun≤9
def Hr.ok (h:Hr):Prop:=(h.m1≤h.m2∧0≤h.m1∧h.m2≤50)∧(0≤h.runs∧h.runs≤60)∧0≤h.crew∧h.crew≤12
structure Cv where
  bs:List Bd
  hs:List Hr
  w1:Int
  w2:Int
  y1:Int
  y2:Int
  rate:Int
  lim:Int
  base:Int
def Cv.b (c:Cv) (i:Nat):Bd:=c.bs.getD i ⟨0,0,0⟩
def Cv.h (c:Cv) (i:Nat):Hr:=c.hs.getD i ⟨0,0,0,0,false⟩
theorem Cv.b_eq {c:Cv} {i:Nat} (h:i<c.bs.length):c.b i=c.bs[i]:=by
  simp [Cv.b,List.getD_eq_getElem?_getD,List.getElem?_eq_getElem h]
theorem Cv.h_eq {c:Cv} {i:Nat} (h:i<c.hs.length):c.h i=c.hs[i]:=by
  simp [Cv.h,List.getD_eq_getElem?_getD,List.getElem?_eq_getElem h]
def Cv.ruled (c:Cv):Prop:=(c.w1≤c.w2∧0≤c.w1∧c.w2≤20)∧(c.y1≤c.y2∧1≤c.y1∧c.y2≤100)∧(0≤c.rate∧c.rate≤100)∧(0≤c.lim∧c.lim≤2000)∧0≤c.base∧c.base≤c.lim
structure Cv.ok (c:Cv) (n:Nat):Prop where
  len:c.bs.length=n
  hours:1≤c.hs.length∧c.hs.length≤8
  bok:∀ i (h:i<c.bs.length),c.bs[i].ok
  hok:∀ i (h:i<c.hs.length),c.hs[i].ok
  rul:c.ruled
structure Tn where
  thick:Nat→Int
  melt:Nat→Int
  wear:Int
  layer:Int
def endT (w:Bool) (c:Cv):Tn:=if w then ⟨fun i=>(c.b i).lo,fun i=>(c.h i).m2,c.w2,c.y1⟩ else ⟨fun i=>(c.b i).hi,fun i=>(c.h i).m1,c.w1,c.y2⟩
def lossF (c:Cv) (t:Tn) (s h:Nat):Int:=(c.b s).sun * t.melt h+(c.h h).runs * t.wear
def befF (c:Cv) (t:Tn) (P:Nat→Nat→Bool) (s:Nat):Nat→Int
  | 0=>t.thick s
  | h+1=>max 0 (befF c t P s h-lossF c t s h)+if P h s then t.layer else 0
def asks (c:Cv) (h:Nat):Int:=if 0<(c.h h).runs then c.lim else c.base
def tooF (c:Cv) (t:Tn) (P:Nat→Nat→Bool) (h s:Nat):Bool:=decide (befF c t P s h-lossF c t s h<asks c h)
structure Tn.ok (c:Cv) (t:Tn):Prop where
  thick:∀ i,i<c.bs.length→(c.b i).lo≤t.thick i∧t.thick i≤(c.b i).hi
  melt:∀ i,i<c.hs.length→(c.h i).m1≤t.melt i∧t.melt i≤(c.h i).m2
  wear:c.w1≤t.wear∧t.wear≤c.w2
  layer:c.y1≤t.layer∧t.layer≤c.y2
theorem endT_ok {c:Cv} {n:Nat} (hc:c.ok n) (w:Bool):Tn.ok c (endT w c):=by
  have hr:=hc.rul
  simp only [Cv.ruled] at hr
  cases w <;> simp only [endT,if_true,Bool.false_eq_true,if_false]
  all_goals
    refine⟨fun i hi=>?_,fun i hi=>?_,?_,?_⟩
    · have:=(hc.bok i hi).1;rw [← Cv.b_eq hi] at this;dsimp only;omega
    · have:=(hc.hok i hi).1;rw [← Cv.h_eq hi] at this;dsimp only;omega
    · dsimp only;omega
    · dsimp only;omega
theorem mul_bd {a b A B:Int} (h1:0≤a) (h2:a≤A) (h3:0≤b) (h4:b≤B):0≤a * b∧a * b≤A * B :=
  ⟨Int.mul_nonneg h1 h3,Int.mul_le_mul h2 h4 h3 (by omega)⟩
theorem loss_bd {c:Cv} {n:Nat} (hc:c.ok n) {t:Tn} (ht:Tn.ok c t) {s h:Nat} (hs:s<c.bs.length) (hh:h<c.hs.length) :
    (0≤(c.b s).sun * t.melt h∧(c.b s).sun * t.melt h≤450)∧(0≤(c.h h).runs * t.wear∧(c.h h).runs * t.wear≤1200)∧0≤lossF c t s h∧lossF c t s h≤1650:=by
  have hb:=hc.bok s hs
  have hr:=hc.hok h hh
  rw [← Cv.b_eq hs] at hb
  rw [← Cv.h_eq hh] at hr
  have hm:=ht.melt h hh
  have hw:=ht.wear
  have hru:=hc.rul
  simp only [Cv.ruled] at hru
  simp only [Bd.ok] at hb
  simp only [Hr.ok] at hr
  have m1:=mul_bd (A:=9) (B:=50) hb.2.1 hb.2.2 (show 0≤t.melt h by omega) (show t.melt h≤50 by omega)
  have m2:=mul_bd (A:=60) (B:=20) hr.2.1.1 hr.2.1.2 (show 0≤t.wear by omega) (show t.wear≤20 by omega)
  simp only [lossF]
  omega
theorem asks_bd {c:Cv} {n:Nat} (hc:c.ok n) (h:Nat):0≤asks c h∧asks c h≤2000:=by
  have hru:=hc.rul
  simp only [Cv.ruled] at hru
  simp only [asks]
  split <;> omega
structure Tn.le (c:Cv) (t u:Tn):Prop where
  thick:∀ i,i<c.bs.length→t.thick i≤u.thick i
  melt:∀ i,i<c.hs.length→u.melt i≤t.melt i
  wear:u.wear≤t.wear
  layer:t.layer≤u.layer
def okL (n:Nat) (l:List Int):Prop:=∀ i (h:i<l.length),(0≤l[i]∧l[i]<n)∧∀ _:0<i,(l[i-1]'(by omega))<l[i]
def handsF (c:Cv) (h:Nat):Int:=if (c.h h).cold=true then (c.h h).crew else 0
def okPl (c:Cv) (L:Nat→List Int):Prop:=∀ h,h<c.hs.length→((L h).length:Int)≤handsF c h∧okL c.bs.length (L h)
def inP (L:Nat→List Int) (h s:Nat):Bool:=decide ((s:Int)∈L h)
def plnL (c:Cv) (us:List Int) (a:Int) (h:Nat):Nat→List Int
  | 0=>[]
  | i+1=>if (c.h h).cold=true∧((plnL c us a h i).length:Int)<(c.h h).crew∧0<chooseF us (a+13 * h+i) % 3 then plnL c us a h i++[(i:Int)] else plnL c us a h i
theorem okL_snoc {n:Nat} {l:List Int} {x:Int} (h:okL n l) (h0:0≤x) (hn:x<n) (hl:∀ y∈l,y<x):okL n (l++[x]):=by
  intro i hi
  rw [List.length_append,List.length_singleton] at hi
  rcases Nat.lt_or_ge i l.length with h1|h1
  · rw [List.getElem_append_left h1]
    refine⟨(h i h1).1,fun h2=>?_⟩
    rw [List.getElem_append_left (by omega)]
    exact (h i h1).2 h2
  · obtain rfl:i=l.length:=by omega
    rw [List.getElem_append_right (by omega)]
    simp only [Nat.sub_self,List.getElem_cons_zero]
    refine⟨⟨h0,hn⟩,fun h2=>?_⟩
    rw [List.getElem_append_left (by omega)]
    exact hl _ (List.getElem_mem _)
def thL (c:Cv) (t:Tn) (P:Nat→Nat→Bool) (h i:Nat):List Int:=((List.range i).filter (tooF c t P h)).map fun (s:Nat)=>(s:Int)
def thP (c:Cv) (t:Tn) (P:Nat→Nat→Bool):Nat→List (Int × Int)
  | 0=>[]
  | h+1=>thP c t P h++(thL c t P h c.bs.length).map fun s=>((h:Int),s)
def pv (l:List (Int × Int)):List AV:=l.flatMap fun p=>[.int .i64 p.1,.int .i64 p.2]
theorem pv_app (l m:List (Int × Int)):pv (l++m)=pv l++pv m:=by simp [pv]
theorem c_fits' (H:Heap) (a c lo hi:Int) {b:Bool} (hb:b=true↔a≤c∧lo≤a∧c≤hi):ACalls Try.prog F.span_Fits [.agg [.int .i64 a,.int .i64 c],.agg [.int .i64 lo,.int .i64 hi]] H (fun v h'=>v=.bool b∧h'=H):=by
  have:b=decide (a≤c∧lo≤a∧c≤hi):=by rw [Bool.eq_iff_iff,hb];simp
  subst this
  exact c_fits H a c lo hi
theorem c_within1 (H:Heap) (lo hi x:Int) (id off:Nat) (ex:Bool) {b:Bool} (hb:b=true↔lo≤x∧x≤hi) (hs:rd H id off 1=some [.int .i64 x]) :
    ACalls Try.prog F.span_Within [.agg [.int .i64 lo,.int .i64 hi],.slice id off 1 1 ex] H (fun v h'=>v=.bool b∧h'=H):=by
  have:b=([x].all fun x=>decide (lo≤x∧x≤hi)):=by rw [Bool.eq_iff_iff,hb];simp
  subst this
  exact c_within H lo hi [x] id off ex (by simpa using hs) (by simp)
def Cv.cs (c:Cv):List AV:=[.int .i64 c.w1,.int .i64 c.w2,.int .i64 c.y1,.int .i64 c.y2,.int .i64 c.rate,.int .i64 c.lim,.int .i64 c.base]
structure Plc where
  tid:Nat
  toff:Nat
  tex:Bool
  tn:Nat
  bid:Nat
  boff:Nat
  bex:Bool
  hid:Nat
  hoff:Nat
  hex:Bool
def Cv.av (c:Cv) (p:Plc):List AV:=[.slice p.tid p.toff p.tn 9 p.tex,.slice p.bid p.boff c.bs.length 3 p.bex,.slice p.hid p.hoff c.hs.length 5 p.hex,.int .i64 c.w1,.int .i64 c.w2,.int .i64 c.y1,.int .i64 c.y2,.int .i64 c.rate,.int .i64 c.lim,.int .i64 c.base]
structure CvAt (H:Heap) (c:Cv) (p:Plc):Prop where
  t:p.tid<H.length
  b:rd H p.bid p.boff (c.bs.length * 3)=some (c.bs.flatMap Bd.av)
  h:rd H p.hid p.hoff (c.hs.length * 5)=some (c.hs.flatMap Hr.av)
theorem CvAt.app {H:Heap} {c:Cv} {p:Plc} (h:CvAt H c p) (G:Heap):CvAt (H++G) c p :=
  ⟨by have:=h.t;simp;omega,by rw [rd_old _ (rd_lt h.b)];exact h.b,by rw [rd_old _ (rd_lt h.h)];exact h.h⟩
theorem c_ruled (H:Heap) (c:Cv) (p:Plc) (hp:CvAt H c p) {b:Bool} (hb:b=true↔c.ruled):ACalls Try.prog F.ice_ruled [.agg (c.av p)] H (fun v h'=>v=.bool b∧h'=H):=by
  have hp1:=hp.t
  have hp2:=rd_lt hp.b
  have hp3:=rd_lt hp.h
  obtain⟨bs,hs,w1,w2,y1,y2,rate,lim,base⟩:=c
  simp only [Cv.av,Cv.ruled] at hb ⊢
  refine acalls_of ok_ice_ruled rfl fun hcl=>?_
  unfold ac_ice_ruled zo
  simp only [argsT,Nat.zero_add,Nat.reduceAdd]
  obtain⟨b1,h1⟩:=bof (w1≤w2∧0≤w1∧w2≤20)
  obtain⟨b2,h2⟩:=bof (y1≤y2∧1≤y1∧y2≤100)
  obtain⟨b3,h3⟩:=bof (0≤rate∧rate≤100)
  obtain⟨b4,h4⟩:=bof (0≤lim∧lim≤2000)
  obtain⟨b5,h5⟩:=bof (0≤base∧base≤lim)
  repeat (first|(with_reducible first|apply X1|apply X2|apply X8|apply Y9)|((with_reducible apply e_end);(simp;exact Rz))|((first|((with_reducible apply O1);rfl)|((with_reducible apply P1);rfl)|((with_reducible apply P2);rfl));(simp (disch:=omega);exact Rz);exact Rz;(focus (first|(simp;done)|omega|(simp;omega)))))
  (with_reducible apply d_call);(simp;exact Rz);exact c_upto _ _;(focus (first|(simp;done)|(simp;omega)))
  skip
  (with_reducible apply d_call);(simp;exact Rz);exact c_fits' _ _ _ _ _ h1;(focus (first|(simp;done)|(simp;omega)))
  cases b1 with
  | false =>
    repeat (first|(with_reducible first|apply X3|apply X8)|((with_reducible apply d_end);(simp;exact Rz))|((with_reducible apply P1);rfl;(simp (disch:=omega);exact Rz);exact Rz;(focus (first|(simp;done)|omega|(simp;omega))))|((with_reducible apply Z5);(simp (disch:=omega);exact Rz)))
    refine q_drop (.inr rfl) (by simp;exact Rz) (by simp) ⟨by rw [AV.bool.injEq];cases b;rfl;(exfalso;have:=hb.1 rfl;simp at h1;omega),rfl⟩
  | true =>
    repeat (first|((first|((with_reducible apply P1);rfl)|((with_reducible apply P2);rfl));(simp (disch:=omega);exact Rz);exact Rz;(focus (first|(simp;done)|omega|(simp;omega))))|((with_reducible apply Z8);(simp (disch:=omega);exact Rz)))
    (with_reducible apply d_call);(simp;exact Rz);exact c_fits' _ _ _ _ _ h2;(focus (first|(simp;done)|(simp;omega)))
    cases b2 with
    | false =>
      repeat (first|(with_reducible first|apply X3|apply X8)|((with_reducible apply d_end);(simp;exact Rz))|((with_reducible apply P1);rfl;(simp (disch:=omega);exact Rz);exact Rz;(focus (first|(simp;done)|omega|(simp;omega))))|((with_reducible apply Z5);(simp (disch:=omega);exact Rz)))
      refine q_drop (.inr rfl) (by simp;exact Rz) (by simp) ⟨by rw [AV.bool.injEq];cases b;rfl;(exfalso;have:=hb.1 rfl;simp at h2;omega),rfl⟩
    | true =>
      repeat (first|((with_reducible apply P1);rfl;(simp (disch:=omega);exact Rz);exact Rz;(focus (first|(simp;done)|omega|(simp;omega))))|((with_reducible apply Z8);(simp (disch:=omega);exact Rz)))
      (with_reducible apply d_call);(simp;exact Rz);exact c_upto _ _;(focus (first|(simp;done)|(simp;omega)))
      repeat (first|((first|((with_reducible apply P1);rfl)|((with_reducible apply P3);rfl));(simp (disch:=omega);exact Rz);exact Rz;(focus (first|(simp;done)|omega|(simp;omega))))|((with_reducible apply Z8);(simp (disch:=omega);exact Rz))|((with_reducible apply P6);rfl;(simp (disch:=omega);exact Rz);exact Rz;(focus (first|(simp [pr];done)|(simp [pr];omega)))))
      (with_reducible apply d_call);(simp;exact Rz);exact c_within1 _ _ _ _ _ _ _ h3 (by simp);(focus (first|(simp;done)|(simp;omega)))
      cases b3 with
      | false =>
        repeat (first|(with_reducible first|apply X3|apply X8)|((with_reducible apply d_end);(simp;exact Rz))|((with_reducible apply P1);rfl;(simp (disch:=omega);exact Rz);exact Rz;(focus (first|(simp;done)|omega|(simp;omega))))|((with_reducible apply Z5);(simp (disch:=omega);exact Rz)))
        refine q_drop (.inr rfl) (by simp;exact Rz) (by simp) ⟨by rw [AV.bool.injEq];cases b;rfl;(exfalso;have:=hb.1 rfl;simp at h3;omega),rfl⟩
      | true =>
        repeat (first|((with_reducible apply P1);rfl;(simp (disch:=omega);exact Rz);exact Rz;(focus (first|(simp;done)|omega|(simp;omega))))|((with_reducible apply Z8);(simp (disch:=omega);exact Rz)))
        (with_reducible apply d_call);(simp;exact Rz);exact c_upto _ _;(focus (first|(simp;done)|(simp;omega)))
        repeat (first|((first|((with_reducible apply P1);rfl)|((with_reducible apply P3);rfl));(simp (disch:=omega);exact Rz);exact Rz;(focus (first|(simp;done)|omega|(simp;omega))))|((with_reducible apply Z8);(simp (disch:=omega);exact Rz))|((with_reducible apply P6);rfl;(simp (disch:=omega);exact Rz);exact Rz;(focus (first|(simp [pr];done)|(simp [pr];omega)))))
        (with_reducible apply d_call);(simp;exact Rz);exact c_within1 _ _ _ _ _ _ _ h4 (by simp);(focus (first|(simp;done)|(simp;omega)))
        cases b4 with
        | false =>
          repeat (first|(with_reducible first|apply X3|apply X8)|((with_reducible apply d_end);(simp;exact Rz))|((with_reducible apply P1);rfl;(simp (disch:=omega);exact Rz);exact Rz;(focus (first|(simp;done)|omega|(simp;omega))))|((with_reducible apply Z5);(simp (disch:=omega);exact Rz)))
          refine q_drop (.inr rfl) (by simp;exact Rz) (by simp) ⟨by rw [AV.bool.injEq];cases b;rfl;(exfalso;have:=hb.1 rfl;simp at h4;omega),rfl⟩
        | true =>
          repeat (first|((first|((with_reducible apply P1);rfl)|((with_reducible apply P2);rfl));(simp (disch:=omega);exact Rz);exact Rz;(focus (first|(simp;done)|omega|(simp;omega))))|((with_reducible apply Z8);(simp (disch:=omega);exact Rz)))
          (with_reducible apply d_call);(simp;exact Rz);exact c_upto _ _;(focus (first|(simp;done)|(simp;omega)))
          repeat (first|((first|((with_reducible apply P1);rfl)|((with_reducible apply P3);rfl));(simp (disch:=omega);exact Rz);exact Rz;(focus (first|(simp;done)|omega|(simp;omega))))|((with_reducible apply Z8);(simp (disch:=omega);exact Rz))|((with_reducible apply P6);rfl;(simp (disch:=omega);exact Rz);exact Rz;(focus (first|(simp [pr];done)|(simp [pr];omega)))))
          (with_reducible apply d_call);(simp;exact Rz);exact c_within1 _ _ _ _ _ _ _ h5 (by simp);(focus (first|(simp;done)|(simp;omega)))
          repeat (first|(with_reducible first|apply X3|apply X8)|((with_reducible apply d_end);(simp;exact Rz))|((with_reducible apply P1);rfl;(simp (disch:=omega);exact Rz);exact Rz;(focus (first|(simp;done)|omega|(simp;omega)))))
          refine q_drop (.inr rfl) (by simp;exact Rz) (by simp) ⟨by rw [AV.bool.injEq,Bool.eq_iff_iff,h5,hb];simp at h1 h2 h3 h4;omega,rfl⟩
theorem c_bedded (H:Heap) (c:Cv) (p:Plc) (hp:CvAt H c p) (hn:(c.bs.length:Int)<1000000) (hn2:(p.tn:Int)<1000000) {b:Bool} (hb:b=true↔c.bs.length=p.tn∧∀ i (h:i<c.bs.length),c.bs[i].ok):ACalls Try.prog F.ice_bedded [.agg (c.av p)] H (fun v h'=>v=.bool b∧h'=H):=by
  have hp1:=hp.t
  have hp2:=rd_lt hp.b
  have hp3:=rd_lt hp.h
  have hr:=hp.b
  obtain⟨tid,toff,tex,tn,bid,boff,bex,hid,hoff,hex⟩:=p
  simp only [Cv.av] at *
  refine acalls_of ok_ice_bedded rfl fun hcl=>?_
  unfold ac_ice_bedded zo
  simp only [argsT,Nat.zero_add,Nat.reduceAdd]
  by_cases hl:c.bs.length=tn
  rotate_left
  · have hl2:¬ (c.bs.length:Int)=tn:=by omega
    repeat (first|(with_reducible first|apply X1|apply X2|apply X3|apply X8|apply X9)|((with_reducible apply e_end);(simp;exact Rz))|((with_reducible apply O1);rfl;(simp (disch:=omega) [hl,hl2];exact Rz);exact Rz;(focus (first|(simp;done)|omega|(simp;omega))))|((with_reducible apply Z9);(simp (disch:=omega) [hl,hl2];exact Rz)))
    refine q_drop (.inr rfl) (by simp;exact Rz) (by simp) ⟨by rw [AV.bool.injEq];cases b;rfl;exact absurd (hb.1 rfl).1 hl,rfl⟩
  · subst hl
    repeat (first|(with_reducible first|apply X1|apply X2|apply X5|apply X6|apply X8)|((with_reducible apply e_end);(simp;exact Rz))|((with_reducible apply O1);rfl;(simp (disch:=omega);exact Rz);exact Rz;(focus (first|(simp;done)|omega|(simp;omega))))|((with_reducible apply W3);(simp (disch:=omega);exact Rz)))
    refine e_loop (ι:={ i:Nat // i≤c.bs.length∧∀ j (hj:j<c.bs.length),j<i→c.bs[j].ok })
      (fun i=>[(14,.slice bid boff c.bs.length 3 bex),(15,.int .i64 c.bs.length),(16,.int .i64 i.1)]) (fun _=>H) (fun i=>c.bs.length-i.1) ⟨0,by simp⟩ ?_ ?_
    · exact .inr <| le_drop (by simp [hp2])
    · rintro⟨i,hi1,hi2⟩
      dsimp only
      by_cases hlt:i<c.bs.length
      · have hlt2:(i:Int)<c.bs.length:=by omega
        have hx:=rd_row Bd.av_length hr hlt
        generalize hsi:c.bs[i]=s at hx
        obtain⟨a1,a2,a3⟩:=s
        simp only [Bd.av] at hx
        obtain⟨b1,h1⟩:=bof (a1≤a2∧0≤a1∧a2≤2000)
        obtain⟨b2,h2⟩:=bof (0≤a3∧a3≤9)
        have no:¬ Bd.ok ⟨a1,a2,a3⟩→AV.bool false=AV.bool b:=fun h=>by
          rw [AV.bool.injEq];cases b;rfl
          have:=(hb.1 rfl).2 i hlt
          rw [hsi] at this;exact absurd this h
        repeat (first|(with_reducible first|apply X1|apply X2|apply X5|apply X6|apply X8|apply Y9)|((with_reducible apply e_end);(simp;exact Rz))|((first|((with_reducible apply O1);rfl)|((with_reducible apply O2);rfl)|((with_reducible apply P1);rfl)|((with_reducible apply P2);rfl));(simp (disch:=omega) [hlt,hlt2,rd_old _ hp2,hx];exact Rz);exact Rz;(focus (first|(simp;done)|omega|(simp;omega))))|((with_reducible apply Z9);(simp (disch:=omega) [hlt,hlt2,rd_old _ hp2,hx];exact Rz)))
        (with_reducible apply d_call);(simp;exact Rz);exact c_upto _ _;(focus (first|(simp;done)|(simp;omega)))
        skip
        (with_reducible apply d_call);(simp;exact Rz);exact c_fits' _ _ _ _ _ h1;(focus (first|(simp;done)|(simp;omega)))
        cases b1 with
        | false =>
          repeat (first|(with_reducible first|apply X1|apply X2|apply X3|apply X8|apply X9|apply Y3|apply Y5)|((with_reducible first|apply e_end|apply d_end);(simp;exact Rz))|((first|((with_reducible apply O1);rfl)|((with_reducible apply P1);rfl));(simp (disch:=omega);exact Rz);exact Rz;(focus (first|(simp;done)|omega|(simp;omega))))|((with_reducible apply Z9);(simp (disch:=omega);exact Rz))|((with_reducible apply Z6);(simp (disch:=omega);exact Rz)))
          refine q_drop (.inr rfl) (by simp;exact Rz) (by simp) ⟨no (fun h=>by have:=h1.2 h.1;cases this),rfl⟩
        | true =>
          repeat (first|((with_reducible apply P1);rfl;(simp (disch:=omega);exact Rz);exact Rz;(focus (first|(simp;done)|omega|(simp;omega))))|((with_reducible apply Z8);(simp (disch:=omega);exact Rz)))
          (with_reducible apply d_call);(simp;exact Rz);exact c_upto _ _;(focus (first|(simp;done)|(simp;omega)))
          repeat (first|((first|((with_reducible apply P1);rfl)|((with_reducible apply P3);rfl));(simp (disch:=omega);exact Rz);exact Rz;(focus (first|(simp;done)|omega|(simp;omega))))|((with_reducible apply Z8);(simp (disch:=omega);exact Rz))|((with_reducible apply P6);rfl;(simp (disch:=omega);exact Rz);exact Rz;(focus (first|(simp [pr];done)|(simp [pr];omega)))))
          (with_reducible apply d_call);(simp;exact Rz);exact c_within1 _ _ _ _ _ _ _ h2 (by simp);(focus (first|(simp;done)|(simp;omega)))
          cases b2 with
          | false =>
            repeat (first|(with_reducible first|apply X1|apply X2|apply X3|apply X8|apply X9|apply Y3|apply Y5)|((with_reducible first|apply e_end|apply d_end);(simp;exact Rz))|((first|((with_reducible apply O1);rfl)|((with_reducible apply P1);rfl));(simp (disch:=omega);exact Rz);exact Rz;(focus (first|(simp;done)|omega|(simp;omega))))|((with_reducible first|apply Z8|apply Z9);(simp (disch:=omega);exact Rz)))
            refine q_drop (.inr rfl) (by simp;exact Rz) (by simp) ⟨no (fun h=>by have:=h2.2 h.2;cases this),rfl⟩
          | true =>
            repeat (first|(with_reducible first|apply X2|apply X5|apply X8|apply Y2)|((with_reducible first|apply e_end|apply d_end);(simp;exact Rz))|((first|((with_reducible apply O1);rfl)|((with_reducible apply P1);rfl));(simp (disch:=omega);exact Rz);exact Rz;(focus (first|(simp;done)|omega|(simp;omega))))|((with_reducible apply Z8);(simp (disch:=omega);exact Rz))|((with_reducible apply W3);(simp (disch:=omega);exact Rz)))
            refine q_again ⟨i+1,hlt,?_⟩ (by dsimp only;omega) (.inr (le_drop (by simp [hp2])))
            intro j hj hji
            rcases Nat.lt_or_ge j i with h|h
            · exact hi2 j hj h
            · obtain rfl:j=i:=by omega
              rw [hsi];exact⟨h1.1 rfl,h2.1 rfl⟩
      · have hlt2:¬ (i:Int)<c.bs.length:=by omega
        repeat (first|(with_reducible first|apply X1|apply X2|apply X3|apply X4|apply X8|apply Y1|apply Y4|apply Y6)|((with_reducible apply e_end);(simp;exact Rz))|((with_reducible apply O1);rfl;(simp (disch:=omega) [hlt2];exact Rz);exact Rz;(focus (first|(simp;done)|omega|(simp;omega))))|((with_reducible apply W3);(simp (disch:=omega) [hlt2];exact Rz)))
        refine q_drop0 (.inr rfl) (by simp;exact Rz) (by simp) ⟨by rw [AV.bool.injEq];exact (hb.2 ⟨rfl,fun j hj=>hi2 j hj (by omega)⟩).symm,rfl⟩
theorem c_timed (H:Heap) (c:Cv) (p:Plc) (hp:CvAt H c p) (hn:(c.hs.length:Int)<1000000) {b:Bool} (hb:b=true↔(1≤c.hs.length∧c.hs.length≤8)∧∀ i (h:i<c.hs.length),c.hs[i].ok):ACalls Try.prog F.ice_timed [.slice p.hid p.hoff c.hs.length 5 p.hex] H (fun v h'=>v=.bool b∧h'=H):=by
  have hp3:=rd_lt hp.h
  have hr:=hp.h
  refine acalls_of ok_ice_timed rfl fun hcl=>?_
  unfold ac_ice_timed zo
  simp only [argsT,Nat.zero_add,Nat.reduceAdd]
  obtain⟨b1,h1⟩:=bof (1≤(c.hs.length:Int)∧(c.hs.length:Int)≤8)
  repeat (first|(with_reducible first|apply X1|apply X2|apply X8)|((with_reducible apply e_end);(simp;exact Rz))|((with_reducible apply O1);rfl;(simp (disch:=omega);exact Rz);exact Rz;(focus (first|(simp;done)|omega|(simp;omega)))))
  (with_reducible apply e_call);(simp;exact Rz);exact c_within1 _ _ _ _ _ _ _ h1 (by simp)
  rintro _ _ ⟨rfl,rfl⟩
  cases b1 with
  | false =>
    repeat (first|(with_reducible first|apply X1|apply X2|apply X3|apply X8|apply X9)|((with_reducible apply e_end);(simp;exact Rz))|((with_reducible apply O1);rfl;(simp (disch:=omega);exact Rz);exact Rz;(focus (first|(simp;done)|omega|(simp;omega))))|((with_reducible apply Z9);(simp (disch:=omega);exact Rz)))
    refine q_drop (.inr rfl) (by simp;exact Rz) (by simp) ⟨by rw [AV.bool.injEq];cases b;rfl;(exfalso;have:=(hb.1 rfl).1;simp at h1;omega),rfl⟩
  | true =>
    repeat (first|(with_reducible first|apply X1|apply X2|apply X5|apply X6|apply X8)|((with_reducible apply e_end);(simp;exact Rz))|((with_reducible apply O1);rfl;(simp (disch:=omega);exact Rz);exact Rz;(focus (first|(simp;done)|omega|(simp;omega))))|((with_reducible apply W3);(simp (disch:=omega);exact Rz)))
    refine e_loop (ι:={ i:Nat // i≤c.hs.length∧∀ j (hj:j<c.hs.length),j<i→c.hs[j].ok })
      (fun i=>[(11,.slice p.hid p.hoff c.hs.length 5 p.hex),(12,.int .i64 c.hs.length),(13,.int .i64 i.1)]) (fun _=>H) (fun i=>c.hs.length-i.1) ⟨0,by simp⟩ ?_ ?_
    · exact .inr <| le_drop (by simp [hp3])
    · rintro⟨i,hi1,hi2⟩
      dsimp only
      by_cases hlt:i<c.hs.length
      · have hlt2:(i:Int)<c.hs.length:=by omega
        have hx:=rd_row Hr.av_length hr hlt
        generalize hsi:c.hs[i]=s at hx
        obtain⟨a1,a2,a3,a4,a5⟩:=s
        simp only [Hr.av] at hx
        obtain⟨b2,h2⟩:=bof (a1≤a2∧0≤a1∧a2≤50)
        obtain⟨b3,h3⟩:=bof (0≤a3∧a3≤60)
        obtain⟨b4,h4⟩:=bof (0≤a4∧a4≤12)
        have no:¬ Hr.ok ⟨a1,a2,a3,a4,a5⟩→AV.bool false=AV.bool b:=fun h=>by
          rw [AV.bool.injEq];cases b;rfl
          have:=(hb.1 rfl).2 i hlt
          rw [hsi] at this;exact absurd this h
        repeat (first|(with_reducible first|apply X1|apply X2|apply X5|apply X6|apply X8|apply Y9)|((with_reducible apply e_end);(simp;exact Rz))|((first|((with_reducible apply O1);rfl)|((with_reducible apply O2);rfl)|((with_reducible apply P1);rfl)|((with_reducible apply P2);rfl));(simp (disch:=omega) [hlt,hlt2,rd_old _ hp3,hx];exact Rz);exact Rz;(focus (first|(simp;done)|omega|(simp;omega))))|((with_reducible apply Z9);(simp (disch:=omega) [hlt,hlt2,rd_old _ hp3,hx];exact Rz)))
        (with_reducible apply d_call);(simp;exact Rz);exact c_upto _ _;(focus (first|(simp;done)|(simp;omega)))
        skip
        (with_reducible apply d_call);(simp;exact Rz);exact c_fits' _ _ _ _ _ h2;(focus (first|(simp;done)|(simp;omega)))
        cases b2 with
        | false =>
          repeat (first|(with_reducible first|apply X1|apply X2|apply X3|apply X8|apply X9|apply Y3|apply Y5)|((with_reducible first|apply e_end|apply d_end);(simp;exact Rz))|((first|((with_reducible apply O1);rfl)|((with_reducible apply P1);rfl));(simp (disch:=omega);exact Rz);exact Rz;(focus (first|(simp;done)|omega|(simp;omega))))|((with_reducible apply Z9);(simp (disch:=omega);exact Rz)))
          refine q_drop (.inr rfl) (by simp;exact Rz) (by simp) ⟨no (fun h=>by have:=h2.2 h.1;cases this),rfl⟩
        | true =>
          repeat (first|(with_reducible first|apply X1|apply X5|apply X8|apply Y9)|((with_reducible apply d_end);(simp;exact Rz))|((with_reducible apply P1);rfl;(simp (disch:=omega);exact Rz);exact Rz;(focus (first|(simp;done)|omega|(simp;omega))))|((with_reducible apply W3);(simp (disch:=omega);exact Rz)))
          (with_reducible apply d_call);(simp;exact Rz);exact c_upto _ _;(focus (first|(simp;done)|(simp;omega)))
          repeat (first|((first|((with_reducible apply P1);rfl)|((with_reducible apply P3);rfl));(simp (disch:=omega);exact Rz);exact Rz;(focus (first|(simp;done)|omega|(simp;omega))))|((with_reducible apply P6);rfl;(simp (disch:=omega);exact Rz);exact Rz;(focus (first|(simp [pr];done)|(simp [pr];omega)))))
          (with_reducible apply d_call);(simp;exact Rz);exact c_within1 _ _ _ _ _ _ _ h3 (by simp);(focus (first|(simp;done)|(simp;omega)))
          cases b3 with
          | false =>
            repeat (first|(with_reducible first|apply X1|apply X2|apply X3|apply X8|apply X9|apply Y3|apply Y5)|((with_reducible first|apply e_end|apply d_end);(simp;exact Rz))|((first|((with_reducible apply O1);rfl)|((with_reducible apply P1);rfl));(simp (disch:=omega);exact Rz);exact Rz;(focus (first|(simp;done)|omega|(simp;omega))))|((with_reducible apply Z9);(simp (disch:=omega);exact Rz))|((with_reducible apply Z6);(simp (disch:=omega);exact Rz)))
            refine q_drop (.inr rfl) (by simp;exact Rz) (by simp) ⟨no (fun h=>by have:=h3.2 h.2.1;cases this),rfl⟩
          | true =>
            repeat (first|((with_reducible apply P1);rfl;(simp (disch:=omega);exact Rz);exact Rz;(focus (first|(simp;done)|omega|(simp;omega))))|((with_reducible apply Z8);(simp (disch:=omega);exact Rz)))
            (with_reducible apply d_call);(simp;exact Rz);exact c_upto _ _;(focus (first|(simp;done)|(simp;omega)))
            repeat (first|((first|((with_reducible apply P1);rfl)|((with_reducible apply P3);rfl));(simp (disch:=omega);exact Rz);exact Rz;(focus (first|(simp;done)|omega|(simp;omega))))|((with_reducible apply Z8);(simp (disch:=omega);exact Rz))|((with_reducible apply P6);rfl;(simp (disch:=omega);exact Rz);exact Rz;(focus (first|(simp [pr];done)|(simp [pr];omega)))))
            (with_reducible apply d_call);(simp;exact Rz);exact c_within1 _ _ _ _ _ _ _ h4 (by simp);(focus (first|(simp;done)|(simp;omega)))
            cases b4 with
            | false =>
              repeat (first|(with_reducible first|apply X1|apply X2|apply X3|apply X8|apply X9|apply Y3|apply Y5)|((with_reducible first|apply e_end|apply d_end);(simp;exact Rz))|((first|((with_reducible apply O1);rfl)|((with_reducible apply P1);rfl));(simp (disch:=omega);exact Rz);exact Rz;(focus (first|(simp;done)|omega|(simp;omega))))|((with_reducible first|apply Z8|apply Z9);(simp (disch:=omega);exact Rz)))
              refine q_drop (.inr rfl) (by simp;exact Rz) (by simp) ⟨no (fun h=>by have:=h4.2 h.2.2;cases this),rfl⟩
            | true =>
              repeat (first|(with_reducible first|apply X2|apply X5|apply X8|apply Y2)|((with_reducible first|apply e_end|apply d_end);(simp;exact Rz))|((first|((with_reducible apply O1);rfl)|((with_reducible apply P1);rfl));(simp (disch:=omega);exact Rz);exact Rz;(focus (first|(simp;done)|omega|(simp;omega))))|((with_reducible apply Z8);(simp (disch:=omega);exact Rz))|((with_reducible apply W3);(simp (disch:=omega);exact Rz)))
              refine q_again ⟨i+1,hlt,?_⟩ (by dsimp only;omega) (.inr (le_drop (by simp [hp3])))
              intro j hj hji
              rcases Nat.lt_or_ge j i with h|h
              · exact hi2 j hj h
              · obtain rfl:j=i:=by omega
                rw [hsi];exact⟨h2.1 rfl,h3.1 rfl,h4.1 rfl⟩
      · have hlt2:¬ (i:Int)<c.hs.length:=by omega
        repeat (first|(with_reducible first|apply X1|apply X2|apply X3|apply X4|apply X8|apply Y1|apply Y4|apply Y6)|((with_reducible apply e_end);(simp;exact Rz))|((with_reducible apply O1);rfl;(simp (disch:=omega) [hlt2];exact Rz);exact Rz;(focus (first|(simp;done)|omega|(simp;omega))))|((with_reducible apply W3);(simp (disch:=omega) [hlt2];exact Rz)))
        refine q_drop0 (.inr rfl) (by simp;exact Rz) (by simp) ⟨by rw [AV.bool.injEq];exact (hb.2 ⟨by have:=h1.1 rfl;omega,fun j hj=>hi2 j hj (by omega)⟩).symm,rfl⟩
structure TrAt (H:Heap) (l:List Str) (p:Plc):Prop where
  n:p.tn=l.length
  t:rd H p.tid p.toff (l.length * 9)=some (l.flatMap Str.av)
theorem TrAt.app {H:Heap} {l:List Str} {p:Plc} (h:TrAt H l p) (G:Heap):TrAt (H++G) l p:=⟨h.n,by rw [rd_old _ (rd_lt h.t)];exact h.t⟩
def chkE (l:List Str) (c:Cv) (e:Int):Prop:=(validL l∧c.ok l.length∧e=0)∨(¬ validL l∧e=10)∨(validL l∧¬ c.ok l.length∧e=20)
theorem c_iCheck (H:Heap) (l:List Str) (c:Cv) (p:Plc) (hp:CvAt H c p) (ht:TrAt H l p) (hn:(l.length:Int)<1000000) (hn1:(c.bs.length:Int)<1000000) (hn2:(c.hs.length:Int)<1000000) :
    ACalls Try.prog F.ice_Check [.agg (c.av p)] H (fun v h'=>h'=H∧∃ e:Int,v=.int .i64 e∧chkE l c e):=by
  obtain⟨b1,h1⟩:=bof (c.bs.length=p.tn∧∀ i (h:i<c.bs.length),c.bs[i].ok)
  obtain⟨b2,h2⟩:=bof ((1≤c.hs.length∧c.hs.length≤8)∧∀ i (h:i<c.hs.length),c.hs[i].ok)
  obtain⟨b3,h3⟩:=bof c.ruled
  have k0:=fun G=>c_Check (H++G) l p.tid p.toff p.tex (by rw [rd_old _ (rd_lt ht.t)];exact ht.t) hn
  have k1:=fun G=>c_bedded (H++G) c p (hp.app G) hn1 (by rw [ht.n];exact hn) h1
  have k2:=fun G=>c_timed (H++G) c p (hp.app G) hn2 h2
  have k3:=fun G=>c_ruled (H++G) c p (hp.app G) h3
  have hp1:=hp.t
  have hp2:=rd_lt hp.b
  have hp3:=rd_lt hp.h
  simp only [Cv.av] at *
  have htn:=ht.n
  rw [← htn] at k0 
  refine acalls_of ok_ice_Check rfl fun hcl=>?_
  unfold ac_ice_Check zo
  simp only [argsT,Nat.zero_add,Nat.reduceAdd]
  repeat (first|(with_reducible first|apply X1|apply X2|apply X8)|((with_reducible apply e_end);(simp;exact Rz))|((with_reducible apply O1);rfl;(simp (disch:=omega);exact Rz);exact Rz;(focus (first|(simp;done)|omega|(simp;omega)))))
  (with_reducible apply e_call);(simp;exact Rz);exact k0 _
  rintro _ _ ⟨rfl,e,rfl,hv|⟨hv,rfl⟩⟩
  rotate_left
  · repeat (first|(with_reducible first|apply X1|apply X2|apply X3|apply X8|apply X9)|((with_reducible apply e_end);(simp;exact Rz))|((with_reducible apply O1);rfl;(simp (disch:=omega);exact Rz);exact Rz;(focus (first|(simp;done)|omega|(simp;omega))))|((with_reducible apply Z9);(simp (disch:=omega);exact Rz)))
    refine q_drop (.inr rfl) (by simp;exact Rz) (by simp) ⟨rfl,10,rfl,.inr (.inl ⟨hv,rfl⟩)⟩
  · obtain⟨hv,rfl⟩:=hv
    have no:(¬ c.ok l.length)→chkE l c 20:=fun h=>.inr (.inr ⟨hv,h,rfl⟩)
    repeat (first|(with_reducible first|apply X1|apply X2|apply X5|apply X8)|((with_reducible apply e_end);(simp;exact Rz))|((with_reducible apply O1);rfl;(simp (disch:=omega);exact Rz);exact Rz;(focus (first|(simp;done)|omega|(simp;omega))))|((with_reducible apply W3);(simp (disch:=omega);exact Rz)))
    (with_reducible apply e_call);(simp;exact Rz);exact k1 _
    rintro _ _ ⟨rfl,rfl⟩
    cases b1 with
    | false =>
      repeat (first|(with_reducible first|apply X1|apply X2|apply X3|apply X8|apply X9)|((with_reducible apply e_end);(simp;exact Rz))|((with_reducible apply O1);rfl;(simp (disch:=omega);exact Rz);exact Rz;(focus (first|(simp;done)|omega|(simp;omega))))|((with_reducible apply Z9);(simp (disch:=omega);exact Rz))|((with_reducible apply Z2);(simp (disch:=omega);exact Rz)))
      refine q_drop (.inr rfl) (by simp;exact Rz) (by simp) ⟨rfl,20,rfl,no fun h=>by have:=h1.2 ⟨by rw [htn];exact h.len,h.bok⟩;cases this⟩
    | true =>
      repeat (first|((with_reducible apply O1);rfl;(simp (disch:=omega);exact Rz);exact Rz;(focus (first|(simp;done)|omega|(simp;omega))))|((with_reducible apply Z7);(simp (disch:=omega);exact Rz)))
      (with_reducible apply e_call);(simp;exact Rz);exact k2 _
      rintro _ _ ⟨rfl,rfl⟩
      cases b2 with
      | false =>
        repeat (first|(with_reducible first|apply X1|apply X2|apply X3|apply X8|apply X9)|((with_reducible apply e_end);(simp;exact Rz))|((with_reducible apply O1);rfl;(simp (disch:=omega);exact Rz);exact Rz;(focus (first|(simp;done)|omega|(simp;omega))))|((with_reducible first|apply Z7|apply Z9);(simp (disch:=omega);exact Rz))|((with_reducible apply Z2);(simp (disch:=omega);exact Rz)))
        refine q_drop (.inr rfl) (by simp;exact Rz) (by simp) ⟨rfl,20,rfl,no fun h=>by have:=h2.2 ⟨h.hours,h.hok⟩;cases this⟩
      | true =>
        repeat (first|((with_reducible apply O1);rfl;(simp (disch:=omega);exact Rz);exact Rz;(focus (first|(simp;done)|omega|(simp;omega))))|((with_reducible apply Z7);(simp (disch:=omega);exact Rz)))
        (with_reducible apply e_call);(simp;exact Rz);exact k3 _
        rintro _ _ ⟨rfl,rfl⟩
        cases b3 with
        | false =>
          repeat (first|(with_reducible first|apply X1|apply X2|apply X3|apply X8|apply X9)|((with_reducible apply e_end);(simp;exact Rz))|((with_reducible apply O1);rfl;(simp (disch:=omega);exact Rz);exact Rz;(focus (first|(simp;done)|omega|(simp;omega))))|((with_reducible first|apply Z7|apply Z9);(simp (disch:=omega);exact Rz)))
          refine q_drop (.inr rfl) (by simp;exact Rz) (by simp) ⟨rfl,20,rfl,no fun h=>by have:=h3.2 h.rul;cases this⟩
        | true =>
          repeat (first|(with_reducible first|apply X1|apply X2|apply X3|apply X5|apply X8)|((with_reducible apply e_end);(simp;exact Rz))|((with_reducible apply O1);rfl;(simp (disch:=omega);exact Rz);exact Rz;(focus (first|(simp;done)|omega|(simp;omega))))|((with_reducible apply Z7);(simp (disch:=omega);exact Rz))|((with_reducible apply W3);(simp (disch:=omega);exact Rz)))
          have o1:=h1.1 rfl
          have o2:=h2.1 rfl
          refine q_drop (.inr rfl) (by simp;exact Rz) (by simp) ⟨rfl,0,rfl,.inl ⟨hv,⟨by rw [← htn];exact o1.1,o2.1,o1.2,o2.2,h3.1 rfl⟩,rfl⟩⟩
def mdF (w:Bool):FuncId:=if w=true then F.span_Low else F.span_High
def tnF (w:Bool):FuncId:=if w=true then F.span_High else F.span_Low
def mkF (w:Bool) (lo hi:Int):Int:=if w=true then lo else hi
def tkF (w:Bool) (lo hi:Int):Int:=if w=true then hi else lo
theorem c_Low (H:Heap) (a b:Int):ACalls Try.prog F.span_Low [.agg [.int .i64 a,.int .i64 b]] H (fun v h'=>v=.int .i64 a∧h'=H):=by
  refine acalls_of ok_span_Low rfl fun hcl=>?_
  unfold ac_span_Low zo
  simp only [argsT,Nat.zero_add,Nat.reduceAdd]
  repeat (first|(with_reducible first|apply X1|apply X2|apply X3|apply X8)|((with_reducible apply e_end);(simp;exact Rz))|((with_reducible apply O1);rfl;(simp (disch:=omega);exact Rz);exact Rz;(focus (first|(simp;done)|omega|(simp;omega)))))
  refine q_drop (.inr rfl) (by simp;exact Rz) (by simp) ⟨rfl,rfl⟩
theorem c_High (H:Heap) (a b:Int):ACalls Try.prog F.span_High [.agg [.int .i64 a,.int .i64 b]] H (fun v h'=>v=.int .i64 b∧h'=H):=by
  refine acalls_of ok_span_High rfl fun hcl=>?_
  unfold ac_span_High zo
  simp only [argsT,Nat.zero_add,Nat.reduceAdd]
  repeat (first|(with_reducible first|apply X1|apply X2|apply X3|apply X8)|((with_reducible apply e_end);(simp;exact Rz))|((with_reducible apply O1);rfl;(simp (disch:=omega);exact Rz);exact Rz;(focus (first|(simp;done)|omega|(simp;omega)))))
  refine q_drop (.inr rfl) (by simp;exact Rz) (by simp) ⟨rfl,rfl⟩
theorem c_made (w:Bool) (H:Heap) (a b:Int):ACalls Try.prog (mdF w) [.agg [.int .i64 a,.int .i64 b]] H (fun v h'=>v=.int .i64 (mkF w a b)∧h'=H):=by
  cases w
  · exact c_High H a b
  · exact c_Low H a b
theorem c_taken (w:Bool) (H:Heap) (a b:Int):ACalls Try.prog (tnF w) [.agg [.int .i64 a,.int .i64 b]] H (fun v h'=>v=.int .i64 (tkF w a b)∧h'=H):=by
  cases w
  · exact c_Low H a b
  · exact c_High H a b
def Cv.tv (c:Cv) (p:Plc) (w:Bool):List AV:=[.slice p.tid p.toff p.tn 9 p.tex,.slice p.bid p.boff c.bs.length 3 p.bex,.slice p.hid p.hoff c.hs.length 5 p.hex,.int .i64 c.w1,.int .i64 c.w2,.int .i64 c.y1,.int .i64 c.y2,.int .i64 c.rate,.int .i64 c.lim,.int .i64 c.base,.fn (.func (mdF w)) [] [],.fn (.func (tnF w)) [] []]
theorem end_melt (w:Bool) (c:Cv) (h:Nat):(endT w c).melt h=tkF w (c.h h).m1 (c.h h).m2:=by cases w <;> rfl
theorem end_wear (w:Bool) (c:Cv):(endT w c).wear=tkF w c.w1 c.w2:=by cases w <;> rfl
theorem CvAt.bed {H:Heap} {c:Cv} {p:Plc} (h:CvAt H c p) {s:Nat} (hs:s<c.bs.length):rd H p.bid (p.boff+s * 3) 3=some (c.b s).av:=by
  rw [rd_row Bd.av_length h.b hs,Cv.b_eq hs]
theorem CvAt.hour {H:Heap} {c:Cv} {p:Plc} (h:CvAt H c p) {s:Nat} (hs:s<c.hs.length):rd H p.hid (p.hoff+s * 5) 5=some (c.h s).av:=by
  rw [rd_row Hr.av_length h.h hs,Cv.h_eq hs]
theorem rd_sub' {H:Heap} {id off n:Nat} {vs:List AV} (h:rd H id off n=some vs) (j m:Nat) (hj:j+m≤n):rd H id (off+j) m=some ((vs.drop j).take m):=rd_sub h hj
theorem c_iloss (w:Bool) (H:Heap) (c:Cv) (p:Plc) (n:Nat) (hp:CvAt H c p) (hc:c.ok n) (s h:Nat) (hs:s<c.bs.length) (hh:h<c.hs.length) :
    ACalls Try.prog F.ice_truth_loss [.agg (c.tv p w),.int .i64 s,.int .i64 h] H (fun v h'=>v=.int .i64 (lossF c (endT w c) s h)∧h'=H):=by
  have hp1:=hp.t
  have hp2:=rd_lt hp.b
  have hp3:=rd_lt hp.h
  have hx:=hp.hour hh
  have hy:=rd_sub' (hp.bed hs) 2 1 (by omega)
  have bd:=loss_bd hc (endT_ok hc w) hs hh
  simp only [lossF,end_melt,end_wear] at bd ⊢
  generalize c.b s=bb at *
  generalize c.h h=hr at *
  obtain⟨x1,x2,x3⟩:=bb
  obtain⟨z1,z2,z3,z4,z5⟩:=hr
  simp only [Bd.av,Hr.av,List.drop_succ_cons,List.drop_zero,List.take_succ_cons,List.take_zero] at hx hy
  simp only [Cv.tv]
  dsimp only at bd ⊢
  have c1:=fun H=>c_taken w H z1 z2
  have c2:=fun H=>c_taken w H c.w1 c.w2
  have hhc:c.hs.length≤8:=hc.hours.2
  refine acalls_of ok_ice_truth_loss rfl fun hcl=>?_
  unfold ac_ice_truth_loss zo
  simp only [argsT,Nat.zero_add,Nat.reduceAdd]
  repeat (first|(with_reducible first|apply X1|apply X2|apply X8|apply Y9)|((with_reducible apply e_end);(simp;exact Rz))|((first|((with_reducible apply O1);rfl)|((with_reducible apply O2);rfl)|((with_reducible apply P1);rfl)|((with_reducible apply P2);rfl));(simp (disch:=omega) [rd_old _ hp3,rd_old _ hp2,hx,hy,hh,hs];exact Rz);exact Rz;(focus (first|(simp;done)|omega|(simp;omega)))))
  (with_reducible apply d_callV);(simp;exact Rz);(simp;exact Rz);exact c1 _;(focus (first|(simp;done)|(simp;omega)))
  repeat (first|((with_reducible apply P1);rfl;(simp (disch:=omega) [rd_old _ hp3,rd_old _ hp2,hx,hy,hh,hs];exact Rz);exact Rz;(focus (first|(simp;done)|omega|(simp;omega))))|((with_reducible apply P6);rfl;(simp (disch:=omega) [rd_old _ hp3,rd_old _ hp2,hx,hy,hh,hs];exact Rz);exact Rz;(focus (first|(simp [pr];done)|(simp [pr];omega)))))
  (with_reducible apply d_callV);(simp;exact Rz);(simp;exact Rz);exact c2 _;(focus (first|(simp;done)|(simp;omega)))
  repeat (first|(with_reducible first|apply X3|apply X8)|((with_reducible apply d_end);(simp;exact Rz))|((with_reducible apply P1);rfl;(simp (disch:=omega);exact Rz);exact Rz;(focus (first|(simp;done)|omega|(simp;omega)))))
  refine q_drop (.inr rfl) (by simp;exact Rz) (by simp) ⟨rfl,rfl⟩
theorem c_greatest1 (H:Heap) (a x:Int) (id off:Nat) (ex:Bool) (hs:rd H id off 1=some [.int .i64 x]):ACalls Try.prog F.ice_greatest [.int .i64 a,.slice id off 1 1 ex] H (fun v h'=>v=.int .i64 (max a x)∧h'=H):=by
  have hid:=rd_lt hs
  refine acalls_of ok_ice_greatest rfl fun hcl=>?_
  unfold ac_ice_greatest zo
  simp only [argsT,Nat.zero_add,Nat.reduceAdd]
  repeat (first|(with_reducible first|apply X1|apply X2|apply X6|apply X8)|((with_reducible apply e_end);(simp;exact Rz))|((with_reducible apply O1);rfl;(simp (disch:=omega);exact Rz);exact Rz;(focus (first|(simp;done)|omega|(simp;omega)))))
  refine e_loop (ι:={ i:Nat // i≤1 })
    (fun i=>[(0,.int .i64 (if i.1=0 then a else max a x)),(7,.slice id off 1 1 ex),(8,.int .i64 1),(9,.int .i64 i.1)]) (fun _=>H) (fun i=>1-i.1) ⟨0,by simp⟩ ?_ ?_
  · exact .inr <| le_id (by simp [hid])
  · rintro⟨i,hi⟩
    dsimp only
    have:i=0∨i=1:=by omega
    rcases this with rfl|rfl
    · by_cases hg:a<x
      · repeat (first|(with_reducible first|apply X1|apply X2|apply X5|apply X6|apply X8|apply Y2)|((with_reducible apply e_end);(simp;exact Rz))|((with_reducible apply O1);rfl;(simp (disch:=omega) [hs,hg];exact Rz);exact Rz;(focus (first|(simp;done)|omega|(simp;omega))))|((with_reducible apply Z9);(simp (disch:=omega) [hs,hg];exact Rz)))
        exact q_again ⟨1,by omega⟩ (by simp) (.inr (le_id (by simp [hid];omega)))
      · repeat (first|(with_reducible first|apply X1|apply X2|apply X5|apply X6|apply X8|apply Y2)|((with_reducible apply e_end);(simp;exact Rz))|((with_reducible apply O1);rfl;(simp (disch:=omega) [hs,hg];exact Rz);exact Rz;(focus (first|(simp;done)|omega|(simp;omega))))|((with_reducible apply Z9);(simp (disch:=omega) [hs,hg];exact Rz))|((with_reducible apply W3);(simp (disch:=omega) [hs,hg];exact Rz)))
        exact q_again ⟨1,by omega⟩ (by simp) (.inr (le_id (by simp [hid];omega)))
    · repeat (first|(with_reducible first|apply X1|apply X2|apply X3|apply X4|apply X8|apply Y1|apply Y4|apply Y6)|((with_reducible apply e_end);(simp;exact Rz))|((with_reducible apply O1);rfl;(simp (disch:=omega);exact Rz);exact Rz;(focus (first|(simp;done)|omega|(simp;omega))))|((with_reducible apply W3);(simp (disch:=omega);exact Rz)))
      refine q_stay (.inr rfl) (by simp;exact Rz) ⟨by simp,rfl⟩
theorem c_rules (H:Heap):ACalls Try.prog F.ice_rules [] H (fun v h'=>v=.agg [.fn (.func F.ice_rules_1) [] [],.fn (.func F.ice_rules_2) [] [],.fn (.func F.ice_rules_3) [] [],.fn (.func F.ice_rules_4) [] []]∧h'=H):=by
  refine acalls_of ok_ice_rules rfl fun hcl=>?_
  unfold ac_ice_rules zo
  simp only [argsT,Nat.zero_add,Nat.reduceAdd]
  repeat (first|(with_reducible first|apply X1|apply X2|apply X3|apply X8)|((with_reducible apply e_end);(simp;exact Rz))|((first|((with_reducible apply O1);rfl)|((with_reducible apply O2);rfl));(simp (disch:=omega);exact Rz);exact Rz;(focus (first|(simp;done)|omega|(simp;omega)))))
  refine q_drop (.inr rfl) (by simp;exact Rz) (by simp) ⟨rfl,rfl⟩
theorem c_rule1 (H:Heap) (h:Hr):ACalls Try.prog F.ice_rules_1 [.agg h.av] H (fun v h'=>v=.bool (decide (0<h.runs))∧h'=H):=by
  obtain⟨z1,z2,z3,z4,z5⟩:=h
  simp only [Hr.av]
  refine acalls_of ok_ice_rules_1 rfl fun hcl=>?_
  unfold ac_ice_rules_1 zo
  simp only [argsT,Nat.zero_add,Nat.reduceAdd]
  repeat (first|(with_reducible first|apply X1|apply X2|apply X3|apply X8)|((with_reducible apply e_end);(simp;exact Rz))|((with_reducible apply O1);rfl;(simp (disch:=omega);exact Rz);exact Rz;(focus (first|(simp;done)|omega|(simp;omega)))))
  refine q_drop (.inr rfl) (by simp;exact Rz) (by simp) ⟨rfl,rfl⟩
theorem c_rule3 (H:Heap) (h:Hr):ACalls Try.prog F.ice_rules_3 [.agg h.av] H (fun v h'=>v=.bool true∧h'=H):=by
  obtain⟨z1,z2,z3,z4,z5⟩:=h
  simp only [Hr.av]
  refine acalls_of ok_ice_rules_3 rfl fun hcl=>?_
  unfold ac_ice_rules_3 zo
  simp only [argsT,Nat.zero_add,Nat.reduceAdd]
  repeat (first|(with_reducible first|apply X1|apply X2|apply X3|apply X8)|((with_reducible apply e_end);(simp;exact Rz))|((with_reducible apply O1);rfl;(simp (disch:=omega);exact Rz);exact Rz;(focus (first|(simp;done)|omega|(simp;omega)))))
  refine q_drop (.inr rfl) (by simp;exact Rz) (by simp) ⟨rfl,rfl⟩
theorem c_rule2 (H:Heap) (c:Cv) (p:Plc) (hp:CvAt H c p):ACalls Try.prog F.ice_rules_2 [.agg (c.av p)] H (fun v h'=>v=.int .i64 c.lim∧h'=H):=by
  have hp1:=hp.t
  have hp2:=rd_lt hp.b
  have hp3:=rd_lt hp.h
  simp only [Cv.av]
  refine acalls_of ok_ice_rules_2 rfl fun hcl=>?_
  unfold ac_ice_rules_2 zo
  simp only [argsT,Nat.zero_add,Nat.reduceAdd]
  repeat (first|(with_reducible first|apply X1|apply X2|apply X3|apply X8)|((with_reducible apply e_end);(simp;exact Rz))|((with_reducible apply O1);rfl;(simp (disch:=omega);exact Rz);exact Rz;(focus (first|(simp;done)|omega|(simp;omega)))))
  refine q_drop (.inr rfl) (by simp;exact Rz) (by simp) ⟨rfl,rfl⟩
theorem c_rule4 (H:Heap) (c:Cv) (p:Plc) (hp:CvAt H c p):ACalls Try.prog F.ice_rules_4 [.agg (c.av p)] H (fun v h'=>v=.int .i64 c.base∧h'=H):=by
  have hp1:=hp.t
  have hp2:=rd_lt hp.b
  have hp3:=rd_lt hp.h
  simp only [Cv.av]
  refine acalls_of ok_ice_rules_4 rfl fun hcl=>?_
  unfold ac_ice_rules_4 zo
  simp only [argsT,Nat.zero_add,Nat.reduceAdd]
  repeat (first|(with_reducible first|apply X1|apply X2|apply X3|apply X8)|((with_reducible apply e_end);(simp;exact Rz))|((with_reducible apply O1);rfl;(simp (disch:=omega);exact Rz);exact Rz;(focus (first|(simp;done)|omega|(simp;omega)))))
  refine q_drop (.inr rfl) (by simp;exact Rz) (by simp) ⟨rfl,rfl⟩
theorem c_least (H:Heap) (c:Cv) (p:Plc) (n:Nat) (hp:CvAt H c p) (hc:c.ok n) (h:Nat) (hh:h<c.hs.length) :
    ACalls Try.prog F.ice_coat_least [.agg (c.av p),.int .i64 h] H (fun v h'=>v=.int .i64 (asks c h)∧h'=H):=by
  have hp1:=hp.t
  have hp2:=rd_lt hp.b
  have hp3:=rd_lt hp.h
  have hx:=hp.hour hh
  have hhc:c.hs.length≤8:=hc.hours.2
  have hr:=hc.rul
  simp only [Cv.ruled] at hr
  have k1:=fun G=>c_rule1 G (c.h h)
  have k3:=fun G=>c_rule3 G (c.h h)
  have k2:=fun G=>c_rule2 (H++G) c p (hp.app G)
  have k4:=fun G=>c_rule4 (H++G) c p (hp.app G)
  simp only [asks]
  generalize c.h h=hr at *
  obtain⟨z1,z2,z3,z4,z5⟩:=hr
  simp only [Cv.av,Hr.av] at *
  refine acalls_of ok_ice_coat_least rfl fun hcl=>?_
  unfold ac_ice_coat_least zo
  simp only [argsT,Nat.zero_add,Nat.reduceAdd]
  repeat (first|(with_reducible first|apply X1|apply X2|apply X8)|((with_reducible apply e_end);(simp;exact Rz))|((with_reducible apply O1);rfl;(simp (disch:=omega);exact Rz);exact Rz;(focus (first|(simp;done)|omega|(simp;omega)))))
  (with_reducible apply e_call);(simp;exact Rz);exact c_rules _
  rintro _ _ ⟨rfl,rfl⟩
  repeat (first|(with_reducible first|apply X6|apply X8)|((with_reducible apply e_end);(simp;exact Rz))|((with_reducible apply O1);rfl;(simp (disch:=omega);exact Rz);exact Rz;(focus (first|(simp;done)|omega|(simp;omega)))))
  refine e_loop (ι:={ i:Nat // i≤2 })
    (fun i=>[(1,.int .i64 h),(2,.ptr H.length 0),(5,.int .i64 (if i.1=0 then 0 else if i.1=1 then (if 0<z3 then c.lim else 0) else if 0<z3 then c.lim else c.base)),(8,.agg [.fn (.func F.ice_rules_1) [] [],.fn (.func F.ice_rules_2) [] [],.fn (.func F.ice_rules_3) [] [],.fn (.func F.ice_rules_4) [] []]),(9,.int .i64 i.1)])
    (fun _=>H++[.cells [.slice p.tid p.toff p.tn 9 p.tex,.slice p.bid p.boff c.bs.length 3 p.bex,.slice p.hid p.hoff c.hs.length 5 p.hex,.int .i64 c.w1,.int .i64 c.w2,.int .i64 c.y1,.int .i64 c.y2,.int .i64 c.rate,.int .i64 c.lim,.int .i64 c.base] true]) (fun i=>2-i.1) ⟨0,by simp⟩ ?_ ?_
  · exact .inr <| le_same (by simp;omega) (by simp [Red])
  · rintro⟨i,hi⟩
    dsimp only
    have:i=0∨i=1∨i=2:=by omega
    rcases this with rfl|rfl|rfl
    · repeat (first|(with_reducible first|apply X1|apply X2|apply X5|apply X6|apply X8|apply Y9)|((with_reducible apply e_end);(simp;exact Rz))|((first|((with_reducible apply O1);rfl)|((with_reducible apply O2);rfl)|((with_reducible apply P1);rfl)|((with_reducible apply P2);rfl));(simp (disch:=omega) [rd_old _ hp3,hx,hh];exact Rz);exact Rz;(focus (first|(simp;done)|omega|(simp;omega))))|((with_reducible apply Z9);(simp (disch:=omega) [rd_old _ hp3,hx,hh];exact Rz)))
      (with_reducible apply d_callV);(simp;exact Rz);(simp;exact Rz);exact k1 _;(focus (first|(simp;done)|(simp;omega)))
      by_cases hz:0<z3
      · repeat (first|(with_reducible first|apply X2|apply X8)|((with_reducible apply d_end);(simp;exact Rz))|((with_reducible apply O1);rfl;(simp (disch:=omega) [hz];exact Rz);exact Rz;(focus (first|(simp;done)|omega|(simp;omega))))|((with_reducible apply Z9);(simp (disch:=omega) [hz];exact Rz)))
        (with_reducible apply e_callV);(simp;exact Rz);(simp;exact Rz);exact k2 _
        rintro _ _ ⟨rfl,rfl⟩
        repeat ((with_reducible apply O1);rfl;(simp (disch:=omega);exact Rz);exact Rz;(focus (first|(simp;done)|omega|(simp;omega))))
        (with_reducible apply e_call);(simp;exact Rz);exact c_greatest1 _ _ c.lim _ _ _ (by simp)
        rintro _ _ ⟨rfl,rfl⟩
        repeat (first|(with_reducible first|apply X2|apply X8|apply Y2)|((with_reducible apply e_end);(simp;exact Rz))|((with_reducible apply O1);rfl;(simp (disch:=omega);exact Rz);exact Rz;(focus (first|(simp;done)|omega|(simp;omega)))))
        refine q_again ⟨1,by omega⟩ (by simp) (.inr (le_take (G:=[_]) (by simp;omega) (by simp [Red,hz];omega)))
      · repeat (first|(with_reducible first|apply X2|apply X5|apply X8|apply Y2)|((with_reducible first|apply e_end|apply d_end);(simp;exact Rz))|((with_reducible apply O1);rfl;(simp (disch:=omega) [hz];exact Rz);exact Rz;(focus (first|(simp;done)|omega|(simp;omega))))|((with_reducible apply W3);(simp (disch:=omega) [hz];exact Rz)))
        refine q_again ⟨1,by omega⟩ (by simp) (.inr (le_take (G:=[_]) (by simp;omega) (by simp [Red,hz])))
    · repeat (first|(with_reducible first|apply X1|apply X2|apply X5|apply X6|apply X8|apply Y9)|((with_reducible apply e_end);(simp;exact Rz))|((first|((with_reducible apply O1);rfl)|((with_reducible apply O2);rfl)|((with_reducible apply P1);rfl)|((with_reducible apply P2);rfl));(simp (disch:=omega) [rd_old _ hp3,hx,hh];exact Rz);exact Rz;(focus (first|(simp;done)|omega|(simp;omega))))|((with_reducible apply Z9);(simp (disch:=omega) [rd_old _ hp3,hx,hh];exact Rz)))
      (with_reducible apply d_callV);(simp;exact Rz);(simp;exact Rz);exact k3 _;(focus (first|(simp;done)|(simp;omega)))
      repeat (first|(with_reducible first|apply X2|apply X8)|((with_reducible apply d_end);(simp;exact Rz))|((with_reducible apply O1);rfl;(simp (disch:=omega);exact Rz);exact Rz;(focus (first|(simp;done)|omega|(simp;omega))))|((with_reducible apply Z9);(simp (disch:=omega);exact Rz)))
      (with_reducible apply e_callV);(simp;exact Rz);(simp;exact Rz);exact k4 _
      rintro _ _ ⟨rfl,rfl⟩
      repeat ((with_reducible apply O1);rfl;(simp (disch:=omega);exact Rz);exact Rz;(focus (first|(simp;done)|omega|(simp;omega))))
      (with_reducible apply e_call);(simp;exact Rz);exact c_greatest1 _ _ c.base _ _ _ (by simp)
      rintro _ _ ⟨rfl,rfl⟩
      repeat (first|(with_reducible first|apply X2|apply X8|apply Y2)|((with_reducible apply e_end);(simp;exact Rz))|((with_reducible apply O1);rfl;(simp (disch:=omega);exact Rz);exact Rz;(focus (first|(simp;done)|omega|(simp;omega)))))
      refine q_again ⟨2,by omega⟩ (by simp) (.inr (le_take (G:=[_]) (by simp;omega) (by simp [Red];split <;> omega)))
    · repeat (first|(with_reducible first|apply X1|apply X2|apply X3|apply X4|apply X8|apply Y1|apply Y4|apply Y6)|((with_reducible apply e_end);(simp;exact Rz))|((with_reducible apply O1);rfl;(simp (disch:=omega);exact Rz);exact Rz;(focus (first|(simp;done)|omega|(simp;omega))))|((with_reducible apply W3);(simp (disch:=omega);exact Rz)))
      refine q_drop (.inr rfl) (by simp;exact Rz) (by simp) ⟨by simp,rfl⟩
theorem pv_plain:∀ l:List (Int × Int),Plain (pv l)
  | []=>Plain.nil
  | x :: l=>by
    have:=(pv_plain l)
    exact Plain.app (xs:=[.int .i64 x.1,.int .i64 x.2]) ⟨rfl,fun _=>rfl,fun _=>rfl⟩ this
theorem ls_int (H:Heap) (l:List Int):IAt (H++lsO l.length (iv l)) (lsV H 1 l.length) l:=(ls_at H (by rw [iv_length,Nat.mul_one])).l.r
theorem c_hands (H:Heap) (c:Cv) (p:Plc) (hp:CvAt H c p) (h:Nat) (hh:h<c.hs.length) (hn:(c.hs.length:Int)<1000000) :
    ACalls Try.prog F.ice_coat_hands [.agg (c.av p),.int .i64 h] H (fun v h'=>v=.int .i64 (handsF c h)∧h'=H):=by
  have hp1:=hp.t
  have hp2:=rd_lt hp.b
  have hp3:=rd_lt hp.h
  have hx:=rd_sub' (hp.hour hh) 4 1 (by omega)
  have hy:=rd_sub' (hp.hour hh) 3 1 (by omega)
  simp only [handsF]
  generalize c.h h=hr at *
  obtain⟨z1,z2,z3,z4,z5⟩:=hr
  simp only [Cv.av,Hr.av,List.drop_succ_cons,List.drop_zero,List.take_succ_cons,List.take_zero] at *
  refine acalls_of ok_ice_coat_hands rfl fun hcl=>?_
  unfold ac_ice_coat_hands zo
  simp only [argsT,Nat.zero_add,Nat.reduceAdd]
  cases z5 with
  | false =>
    repeat (first|(with_reducible first|apply X1|apply X2|apply X3|apply X8|apply X9)|((with_reducible apply e_end);(simp;exact Rz))|((with_reducible apply O1);rfl;(simp (disch:=omega) [rd_old _ hp3,hx,hh];exact Rz);exact Rz;(focus (first|(simp;done)|omega|(simp;omega))))|((with_reducible apply Z9);(simp (disch:=omega) [rd_old _ hp3,hx,hh];exact Rz)))
    refine q_drop (.inr rfl) (by simp;exact Rz) (by simp) ⟨by simp,rfl⟩
  | true =>
    repeat (first|(with_reducible first|apply X1|apply X2|apply X3|apply X5|apply X8)|((with_reducible apply e_end);(simp;exact Rz))|((with_reducible apply O1);rfl;(simp (disch:=omega) [rd_old _ hp3,hx,hy,hh];exact Rz);exact Rz;(focus (first|(simp;done)|omega|(simp;omega))))|((with_reducible apply W3);(simp (disch:=omega) [rd_old _ hp3,hx,hy,hh];exact Rz)))
    refine q_drop (.inr rfl) (by simp;exact Rz) (by simp) ⟨by simp,rfl⟩
def plE (l:List Str) (c:Cv) (n:Nat) (L:Nat→List Int) (e:Int):Prop :=
  (validL l∧c.ok l.length∧(n=c.hs.length∧okPl c L)∧e=0)∨(¬ (validL l∧c.ok l.length)∧chkE l c e∧e≠0)∨(validL l∧c.ok l.length∧¬ (n=c.hs.length∧okPl c L)∧e=21)
theorem c_worst (H:Heap) (c:Cv) (p:Plc) (hp:CvAt H c p):ACalls Try.prog F.ice_coat_worst [.agg (c.av p)] H (fun v h'=>v=.agg (c.tv p true)∧h'=H):=by
  have hp1:=hp.t
  have hp2:=rd_lt hp.b
  have hp3:=rd_lt hp.h
  simp only [Cv.av,Cv.tv,mdF,tnF,if_true]
  refine acalls_of ok_ice_coat_worst rfl fun hcl=>?_
  unfold ac_ice_coat_worst zo
  simp only [argsT,Nat.zero_add,Nat.reduceAdd]
  repeat (first|(with_reducible first|apply X1|apply X2|apply X3|apply X8)|((with_reducible apply e_end);(simp;exact Rz))|((first|((with_reducible apply O1);rfl)|((with_reducible apply O2);rfl));(simp (disch:=omega);exact Rz);exact Rz;(focus (first|(simp;done)|omega|(simp;omega)))))
  refine q_drop (.inr rfl) (by simp;exact Rz) (by simp;omega) ⟨rfl,rfl⟩
def lossE (l:List Str) (c:Cv) (s h:Int) (lo hi e:Int):Prop :=
  (¬ (validL l∧c.ok l.length)∧chkE l c e∧e≠0∧lo=0∧hi=0)∨(validL l∧c.ok l.length∧¬ ((0≤s∧s<c.bs.length)∧0≤h∧h<c.hs.length)∧e=2∧lo=0∧hi=0) ∨
  (validL l∧c.ok l.length∧((0≤s∧s<c.bs.length)∧0≤h∧h<c.hs.length)∧e=0∧lo=lossF c (endT false c) s.toNat h.toNat∧hi=lossF c (endT true c) s.toNat h.toNat)
def thickE (l:List Str) (c:Cv) (n:Nat) (L:Nat→List Int) (s h:Int) (lo hi e:Int):Prop :=
  (plE l c n L e∧e≠0∧lo=0∧hi=0)∨(validL l∧c.ok l.length∧(n=c.hs.length∧okPl c L)∧¬ ((0≤s∧s<c.bs.length)∧0≤h∧h≤c.hs.length)∧e=2∧lo=0∧hi=0) ∨
  (validL l∧c.ok l.length∧(n=c.hs.length∧okPl c L)∧((0≤s∧s<c.bs.length)∧0≤h∧h≤c.hs.length)∧e=0∧lo=befF c (endT true c) (inP L) s.toNat h.toNat∧hi=befF c (endT false c) (inP L) s.toNat h.toNat)
def safeF (c:Cv) (L:Nat→List Int):Int:=if thP c (endT false c) (inP L) c.hs.length≠[] then 0 else if thP c (endT true c) (inP L) c.hs.length≠[] then 1 else 2
end Go.Proofs
