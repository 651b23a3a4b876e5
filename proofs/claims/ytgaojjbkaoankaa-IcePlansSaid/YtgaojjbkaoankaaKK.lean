/- Several texts as one. -/
import Derived.Test.YtgaojjbkaoankaaRA
/- Ice: truths,as lists in memory. -/
namespace Go.Proofs
open Go.Abs
attribute [local simp] AOp.den AOpd.ev lk cellsOf rd_new rd_new0 rd_zero rd_succ wr_new wr_new0 wr_zero wr_succ splice fillA binA scal sliceCells List.length_append argsT AV.sc scL AObj.sc resV getAll AR.get AOp.slots opdSlots opdsSlots partSlots eqAt at_new0 at_new set_new0 set_new wrap64
set_option linter.unusedSimpArgs false
set_option linter.unusedVariables false
def tnL (f:Nat→Int) (n:Nat):List Int:=(List.range n).map f
theorem tnL_len (f:Nat→Int) (n:Nat):(tnL f n).length=n:=by simp [tnL]
theorem tnL_succ (f:Nat→Int) (n:Nat):tnL f (n+1)=tnL f n++[f n]:=by simp [tnL,List.range_succ]
def tnV (k:Nat) (c:Cv) (t:Tn):AV:=.agg [.slice k 0 c.bs.length 1 false,.slice (k+1) 0 c.hs.length 1 false,.int .i64 t.wear,.int .i64 t.layer]
def tnO (c:Cv) (t:Tn):Heap:=[.cells (iv (tnL t.thick c.bs.length)) true,.cells (iv (tnL t.melt c.hs.length)) true]
theorem iv_tn (f:Nat→Int) (n:Nat):iv (tnL f n)=avL f n:=by simp [iv,tnL,avL]
theorem wr_set {H:Heap} {id i:Nat} {f g:Nat→Int} {n:Nat} {x:Int} (h:H[id]?=some (.cells (avL f n) true)) (hi:i<n) (hg:∀ j,g j=if j=i then x else f j) :
    wr H id i [.int .i64 x]=some (H.set id (.cells (avL g n) true)):=by
  unfold wr
  simp only [h,List.length_cons,List.length_nil,avL_length]
  rw [if_pos (by omega)]
  congr 3
  apply List.ext_getElem
  · simp [splice,avL_length];omega
  · intro k h1 h2
    simp only [splice,List.length_cons,List.length_nil]
    rw [avL_length] at h2
    have e:∀ (f:Nat→Int) (h:k<(avL f n).length),(avL f n)[k]=.int .i64 (f k):=fun f h=>by simp [avL]
    rw [e g]
    rcases Nat.lt_trichotomy k i with h3|h3|h3
    · rw [List.getElem_append_left (by simp [avL_length];omega),List.getElem_append_left (by simp [avL_length];omega),List.getElem_take,e f,hg,if_neg (by omega)]
    · subst h3
      rw [List.getElem_append_left (by simp [avL_length];omega),List.getElem_append_right (by simp [avL_length];omega)]
      simp [avL_length,hg]
    · rw [List.getElem_append_right (by simp [avL_length];omega),List.getElem_drop]
      have:i+1+(k-((avL f n).take i++[AV.int .i64 x]).length)=k:=by simp [avL_length];omega
      simp only [this,e f,hg,if_neg (show ¬ k=i by omega)]
theorem rd_cell {H:Heap} {id i:Nat} {f:Nat→Int} {n:Nat} {b:Bool} (h:H[id]?=some (.cells (avL f n) b)) (hi:i<n):rd H id i 1=some [.int .i64 (f i)]:=by
  unfold rd
  simp only [h,avL_length]
  rw [if_pos (by omega)]
  have e:(avL f n).drop i=.int .i64 (f i) :: (avL f n).drop (i+1):=by
    rw [List.drop_eq_getElem_cons (by rw [avL_length];omega)];congr 1;simp [avL]
  rw [e];rfl
structure GS (A:Heap) (nb:Nat) (R:Nat→Nat→Int) (m:Nat) (N:Nat→Int) (T:List (Int × Int)) (n:Nat) (ids:Nat→Nat) (av tv:AV) (G:Heap):Prop where
  all:AAt (A++G) 1 av (rwV (fun k=>.slice (A.length+ids k) 0 nb 1 false) m) m
  now:G[n]?=some (.cells (avL N nb) true)
  rows:∀ k,k<m→G[ids k]?=some (.cells (avL (R k) nb) true)
  thin:AAt (A++G) 2 tv (pv T) T.length
  alo:∀ i,isId av i→A.length≤i∧i≠A.length+n∧(¬ isId tv i)∧∀ k,k<m→i≠A.length+ids k
  tlo:∀ i,isId tv i→A.length≤i∧i≠A.length+n∧∀ k,k<m→i≠A.length+ids k
  ne2:∀ k,k<m→ids k≠n
  ne3:∀ k j,k<m→j<m→k≠j→ids k≠ids j
section
variable {A:Heap} {nb:Nat} {R:Nat→Nat→Int} {m:Nat} {N:Nat→Int} {T:List (Int × Int)} {n:Nat} {ids:Nat→Nat} {av tv:AV} {G:Heap}
theorem GS.nlt (h:GS A nb R m N T n ids av tv G):n<G.length:=(List.getElem?_eq_some_iff.1 h.now).1
theorem GS.klt (h:GS A nb R m N T n ids av tv G) {k:Nat} (hk:k<m):ids k<G.length:=(List.getElem?_eq_some_iff.1 (h.rows k hk)).1
theorem GS.alt (h:GS A nb R m N T n ids av tv G) {i:Nat} (hi:isId av i):i<A.length+G.length:=by have:=h.all.l.lt hi;simpa using this
theorem GS.tlt (h:GS A nb R m N T n ids av tv G) {i:Nat} (hi:isId tv i):i<A.length+G.length:=by have:=h.thin.l.lt hi;simpa using this
theorem GS.keep (h:GS A nb R m N T n ids av tv G) {G':Heap} (hk:∀ i,i<G.length→G'[i]?=G[i]?):GS A nb R m N T n ids av tv G':=by
  have hA:∀ i,A.length≤i→i<A.length+G.length→(A++G')[i]?=(A++G)[i]?:=fun i h1 h2=>by
    rw [List.getElem?_append_right h1,List.getElem?_append_right h1,hk _ (by omega)]
  exact⟨h.all.keep fun i hi=>hA i (h.alo i hi).1 (h.alt hi),by rw [hk _ h.nlt];exact h.now,fun k hk'=>by rw [hk _ (h.klt hk')];exact h.rows k hk',
    h.thin.keep fun i hi=>hA i (h.tlo i hi).1 (h.tlt hi),h.alo,h.tlo,h.ne2,h.ne3⟩
theorem GS.app (h:GS A nb R m N T n ids av tv G) (X:Heap):GS A nb R m N T n ids av tv (G++X):=h.keep fun i hi=>List.getElem?_append_left hi
theorem GS.set (h:GS A nb R m N T n ids av tv G) (N':Nat→Int):GS A nb R m N' T n ids av tv (G.set n (.cells (avL N' nb) true)):=by
  have hne:∀ i,i≠n→(G.set n (.cells (avL N' nb) true))[i]?=G[i]?:=fun i hi=>by rw [List.getElem?_set,if_neg (by omega)]
  have hA:∀ i,A.length≤i→i≠A.length+n→(A++G.set n (.cells (avL N' nb) true))[i]?=(A++G)[i]?:=fun i h1 h2=>by
    rw [List.getElem?_append_right h1,List.getElem?_append_right h1,hne _ (by omega)]
  exact⟨h.all.keep fun i hi=>hA i (h.alo i hi).1 (h.alo i hi).2.1,by rw [List.getElem?_set,if_pos rfl,if_pos h.nlt],fun k hk'=>by rw [hne _ (h.ne2 k hk')];exact h.rows k hk',
    h.thin.keep fun i hi=>hA i (h.tlo i hi).1 (h.tlo i hi).2.1,h.alo,h.tlo,h.ne2,h.ne3⟩
theorem GS.cell (h:GS A nb R m N T n ids av tv G) {i:Nat} (hi:i<nb) (X:Heap):rd (G++X) n i 1=some [.int .i64 (N i)]:=rd_cell (h.app X).now hi
theorem GS.put (h:GS A nb R m N T n ids av tv G) {i:Nat} (hi:i<nb) (x:Int):wr G n i [.int .i64 x]=some (G.set n (.cells (avL (fun j=>if j=i then x else N j) nb) true)):=wr_set h.now hi fun _=>rfl
theorem GS.more (h:GS A nb R m N T n ids av tv G) {G':Heap} {tv':AV} {T':List (Int × Int)} (h1:AAt (A++G') 2 tv' (pv T') T'.length) (h2:∀ i,isId tv' i→A.length+G.length≤i)
    (h3:∀ i,i<A.length+G.length→¬ isId tv i→(A++G')[i]?=(A++G)[i]?):GS A nb R m N T' n ids av tv' G':=by
  have hG:∀ i,i<G.length→¬ isId tv (A.length+i)→G'[i]?=G[i]?:=fun i h4 h5=>by
    have:=h3 (A.length+i) (by omega) h5
    simpa [at_new] using this
  refine⟨h.all.keep fun i hi=>h3 i (h.alt hi) (h.alo i hi).2.2.1,?_,fun k hk=>?_,h1,fun i hi=>⟨(h.alo i hi).1,(h.alo i hi).2.1,fun hh=>?_,(h.alo i hi).2.2.2⟩,fun i hi=>?_,h.ne2,h.ne3⟩
  · rw [hG _ h.nlt fun hh=>(h.tlo _ hh).2.1 rfl];exact h.now
  · rw [hG _ (h.klt hk) fun hh=>(h.tlo _ hh).2.2 k hk rfl];exact h.rows k hk
  · have:=h2 i hh;have:=h.alt hi;omega
  · have:=h2 i hi
    have:=h.nlt
    exact⟨by omega,by omega,fun k hk=>by have:=h.klt hk;omega⟩
theorem GS.row (h:GS A nb R m N T n ids av tv G) {G':Heap} {av':AV} {q:Nat} (hq:G.length≤q) (h0:G'[q]?=some (.cells (avL N nb) true)) (hN:∀ j,j<nb→R m j=N j)
    (h1:AAt (A++G') 1 av' (rwV (fun k=>.slice (A.length+ids k) 0 nb 1 false) m++[.slice (A.length+q) 0 nb 1 false]) (m+1)) (h2:∀ i,isId av' i→A.length+q<i)
    (h3:∀ i,i<A.length+G.length→¬ isId av i→(A++G')[i]?=(A++G)[i]?):GS A nb R (m+1) N T n (fun k=>if k=m then q else ids k) av' tv G':=by
  have hG:∀ i,i<G.length→¬ isId av (A.length+i)→G'[i]?=G[i]?:=fun i h4 h5=>by
    have:=h3 (A.length+i) (by omega) h5
    simpa [at_new] using this
  have hRN:avL (R m) nb=avL N nb:=by
    apply List.map_congr_left
    intro j hj
    rw [hN j (List.mem_range.1 hj)]
  refine⟨?_,?_,fun k hk=>?_,h.thin.keep fun i hi=>h3 i (h.tlt hi) fun hh=>(h.alo i hh).2.2.1 hi,fun i hi=>?_,fun i hi=>?_,fun k hk=>?_,fun k j hk hj hne=>?_⟩
  · have e:rwV (fun k=>.slice (A.length+if k=m then q else ids k) 0 nb 1 false) (m+1)=rwV (fun k=>.slice (A.length+ids k) 0 nb 1 false) m++[AV.slice (A.length+q) 0 nb 1 false]:=by
      simp only [rwV,List.range_succ,List.map_append,List.map_cons,List.map_nil,if_true]
      congr 1
      apply List.map_congr_left
      intro k hk
      have:=List.mem_range.1 hk
      rw [if_neg (by omega)]
    rw [e];exact h1
  · rw [hG _ h.nlt fun hh=>(h.alo _ hh).2.1 rfl];exact h.now
  · by_cases hkm:k=m
    · subst hkm;simp only [if_true];rw [hRN];exact h0
    · have hk':k<m:=by omega
      simp only [if_neg hkm]
      rw [hG _ (h.klt hk') fun hh=>(h.alo _ hh).2.2.2 k hk' rfl];exact h.rows k hk'
  · have:=h2 i hi
    have:=h.nlt
    refine⟨by omega,by omega,fun hh=>by have:=h.tlt hh;omega,fun k hk=>?_⟩
    by_cases hkm:k=m
    · simp only [hkm,if_true];omega
    · have:=h.klt (show k<m by omega);simp only [if_neg hkm];omega
  · have:=h.tlo i hi
    refine⟨this.1,this.2.1,fun k hk=>?_⟩
    by_cases hkm:k=m
    · have:=h.tlt hi;simp only [hkm,if_true];omega
    · simp only [if_neg hkm];exact this.2.2 k (by omega)
  · have:=h.nlt
    by_cases hkm:k=m
    · simp only [hkm,if_true];omega
    · simp only [if_neg hkm];exact h.ne2 k (by omega)
  · by_cases hkm:k=m
    · have:=h.klt (show j<m by omega)
      simp only [hkm,if_true,if_neg (show ¬ j=m by omega)];omega
    · by_cases hjm:j=m
      · have:=h.klt (show k<m by omega)
        simp only [hjm,if_true,if_neg hkm];omega
      · simp only [if_neg hkm,if_neg hjm];exact h.ne3 k j (by omega) (by omega) hne
def goO (k:Nat) (nb:Nat) (R:Nat→Nat→Int) (m:Nat) (T:List (Int × Int)):Heap :=
  .cells (rwV (fun j=>.slice (k+1+j) 0 nb 1 false) m) true :: ((List.range m).map fun j=>.cells (avL (R j) nb) true)++lsO T.length (pv T)
def goV (k m:Nat) (T:List (Int × Int)):AV:=.tuple [.slice k 0 m 1 false,if T.length=0 then .nilslice else .slice (k+1+m) 0 T.length 2 false]
end
theorem d_appA {P:Program} {ps:List (List Nat)} {l:List AO} {i:Nat} {past:List (Nat × Heap)} {rds:List Rd} {K:St→Prop} {t:List (Nat × AV)} {h A G:Heap} {d sz bytes n m:Nat} {v w:AV} {cs new:List AV} {x y:AOpd} (he:h=A++G)
    (hx:Red (x.ev t) v) (hy:Red (y.ev t) w) (hl:AAt h sz v cs n) (hvi:∀ i,isId v i→A.length≤i) (hw:sliceCells h sz w=some (m,new)) (hsc:new.all scal=true) (hb:(n+m) * bytes≤140737488355328) (h0:0<n+m)
    (hnl:new.length=m * sz)
    (hre:(rds.all fun r=>(pr ps i).contains r.at_)=true) (hsl:((AOp.append x y sz bytes).slots.all fun k=>(lk t k).sc h.length)=true)
    (hn:∀ (G':Heap) (v':AV),AAt (A++G') sz v' (cs++new) (n+m)→(∀ i,isId v' i→A.length≤i)→(∀ i,i<h.length→¬ isId v i→(A++G')[i]?=h[i]?)→(∀ i,isId v' i→h.length≤i)→h.length≤(A++G').length →
      EDraw P ps l (i+1) ((i,h) :: past) (rds.filter fun r=>!(pr ps i).contains r.at_) K ((d,v') :: t) (A++G')) :
    EDraw P ps (⟨some d,.append x y sz bytes,none⟩ :: l) i past rds K t h:=by
  have fin:∀ h1:Heap,h1.length=h.length→(∀ i,¬ isId v i→h1[i]?=h[i]?)→EDraw P ps l (i+1) ((i,h) :: past) (rds.filter fun r=>!(pr ps i).contains r.at_) K ((d,.slice h.length 0 (n+m) sz false) :: t) (h1++[.cells (cs++new) true]):=fun h1 e1 e2=>by
    have hA:A.length≤h.length:=by rw [he];simp
    have e3:∀ j,j<h.length→¬ isId v j→(h1++[AObj.cells (cs++new) true])[j]?=h[j]?:=fun j hj hv=>by
      rw [List.getElem?_append_left (by omega)];exact e2 j hv
    have e4:(h1++[AObj.cells (cs++new) true])[h.length]?=some (.cells (cs++new) true):=by rw [List.getElem?_append_right (by omega),e1];simp
    have e5:h.length≤(h1++[AObj.cells (cs++new) true]).length:=by simp;omega
    generalize h1++[AObj.cells (cs++new) true]=h2 at *
    obtain⟨G2,rfl⟩:=ext_of (A:=A) (h':=h2) (by omega) (by
      intro k hk
      rw [e3 k (by omega) (fun hid=>by have:=hvi k hid;omega),he,List.getElem?_append_left hk])
    refine hn G2 _ ⟨by rw [List.length_append,hl.1,hnl,Nat.add_mul],.inr ⟨_,h0,rfl,e4⟩⟩ (fun i hi=>?_) (fun i hi hv=>e3 i hi hv) (fun i hi=>?_) e5
    · have:h.length=i:=hi
      omega
    · have:h.length=i:=hi
      omega
  obtain⟨h1,⟨h2,e1,e2⟩|⟨h2,e1,e2⟩⟩:=app_den (bytes:=bytes) hx hy hl.l hw hsc hb
  · exact d_set rfl rfl hre h2 Rz ⟨hsc,hb,trivial⟩ hsl (by simp;omega) (fin h1 e1 e2)
  · exact d_set rfl rfl hre h2 Rz ⟨hsc,hb⟩ hsl (by simp;omega) (fin h1 e1 e2)
def chT (c:Cv) (us:List Int) (a:Int):Tn:=⟨fun i=>someF (c.b i).lo (c.b i).hi (chooseF us (a+2+i)),fun i=>someF (c.h i).m1 (c.h i).m2 (chooseF us (a+30+i)),someF c.w1 c.w2 (chooseF us a),someF c.y1 c.y2 (chooseF us (a+1))⟩
theorem renL_map (ρ:Nat→Nat):∀ vs:List AV,renL ρ vs=vs.map (AV.ren ρ)
  | []=>rfl
  | v :: vs=>by rw [renL,renL_map ρ vs];rfl
theorem scL_all (n:Nat):∀ vs:List AV,scL n vs=vs.all (AV.sc n)
  | []=>rfl
  | v :: vs=>by rw [scL,scL_all n vs];rfl
theorem goO_len (k nb:Nat) (R:Nat→Nat→Int) (m:Nat) (T:List (Int × Int)):(goO k nb R m T).length=1+m+(lsO T.length (pv T)).length:=by simp [goO];omega
theorem goO_at0 (k nb:Nat) (R:Nat→Nat→Int) (m:Nat) (T:List (Int × Int)):(goO k nb R m T)[0]?=some (.cells (rwV (fun j=>.slice (k+1+j) 0 nb 1 false) m) true):=rfl
theorem goO_atj (k nb:Nat) (R:Nat→Nat→Int) {m j:Nat} (T:List (Int × Int)) (hj:j<m):(goO k nb R m T)[1+j]?=some (.cells (avL (R j) nb) true):=by
  rw [goO,List.cons_append,Nat.add_comm 1 j,List.getElem?_cons_succ,List.getElem?_append_left (by simpa using hj)];simp [hj]
theorem goO_att (k nb:Nat) (R:Nat→Nat→Int) {m j:Nat} (T:List (Int × Int)) (hj:m≤j):(goO k nb R m T)[1+j]?=(lsO T.length (pv T))[j-m]?:=by
  rw [goO,List.cons_append,Nat.add_comm 1 j,List.getElem?_cons_succ,List.getElem?_append_right (by simpa using hj)];simp
theorem GS.le {H B A:Heap} {nb:Nat} {R:Nat→Nat→Int} {m:Nat} {N:Nat→Int} {T:List (Int × Int)} {n:Nat} {ids:Nat→Nat} {av tv:AV} {G:Heap} (h:GS A nb R m N T n ids av tv G) (hA:A=H++B) (hm:0<m) :
    Le H ⟨[(0,.tuple [av,tv])],A++G⟩ ⟨[(0,goV H.length m T)],H++goO H.length nb R m T⟩:=by
  have hall:=h.all
  obtain⟨_,⟨_,h0⟩|⟨ai,_,rfl,ga⟩⟩:=hall
  · omega
  obtain⟨la,_,hat,har⟩:=h.alo ai rfl
  rw [List.getElem?_append_right la] at ga
  have hlA:A.length=H.length+B.length:=by rw [hA];simp
  obtain⟨tl,ht1,ht2,ht3,ht4,ht5⟩:∃ tl:List Nat,tl.length=(lsO T.length (pv T)).length∧tl.Nodup∧(∀ (k p:Nat) (o:AObj),(lsO T.length (pv T))[k]?=some o→tl[k]?=some p→PlainO o∧B.length≤p∧G[p-B.length]?=some o) ∧
      (∀ p∈tl,isId tv (H.length+p))∧(if T.length=0 then tv=.nilslice∧tl=[] else ∃ p,tl=[p]∧tv=.slice (H.length+p) 0 T.length 2 false):=by
    have hth:=h.thin
    obtain⟨_,⟨rfl,h0⟩|⟨ti,h0,rfl,gt⟩⟩:=hth
    · refine⟨[],by simp [lsO,h0],by simp,fun k p o h1=>by simp [lsO,h0] at h1,by simp,?_⟩
      simp [h0]
    · have lt:=(h.tlo ti rfl).1
      rw [List.getElem?_append_right lt] at gt
      have hne:¬ T.length=0:=by omega
      have eti:H.length+(ti-H.length)=ti:=by omega
      refine⟨[ti-H.length],by simp [lsO,hne],by simp,fun k p o h1 h2=>?_,?_,?_⟩
      · simp only [lsO,if_neg hne] at h1
        rcases k with _|k
        · simp at h1 h2
          subst h1 h2
          exact⟨(pv_plain T).o true,by omega,by rw [show ti-H.length-B.length=ti-A.length by omega];exact gt⟩
        · simp at h1
      · intro p hp
        simp only [List.mem_singleton] at hp
        subst hp
        rw [eti];rfl
      · rw [if_neg hne];exact⟨_,rfl,by rw [eti]⟩
  have e0:(ai-H.length-B.length)=ai-A.length:=by omega
  rw [hA,List.append_assoc]
  have hps:((ai-H.length) :: (((List.range m).map fun j=>B.length+ids j)++tl)).length=1+m+(lsO T.length (pv T)).length:=by simp [ht1];omega
  have getD0:((ai-H.length) :: (((List.range m).map fun j=>B.length+ids j)++tl)).getD 0 0=ai-H.length:=rfl
  have getDj:∀ j,j<m→((ai-H.length) :: (((List.range m).map fun j=>B.length+ids j)++tl)).getD (1+j) 0=B.length+ids j:=fun j hj=>by
    rw [List.getD_eq_getElem?_getD,Nat.add_comm 1 j,List.getElem?_cons_succ,List.getElem?_append_left (by simpa using hj)];simp [hj]
  have getj:∀ j,j<m→((ai-H.length) :: (((List.range m).map fun j=>B.length+ids j)++tl))[1+j]?=some (B.length+ids j):=fun j hj=>by
    rw [Nat.add_comm 1 j,List.getElem?_cons_succ,List.getElem?_append_left (by simpa using hj)];simp [hj]
  have gett:∀ j,m≤j→((ai-H.length) :: (((List.range m).map fun j=>B.length+ids j)++tl))[1+j]?=tl[j-m]?:=fun j hj=>by
    rw [Nat.add_comm 1 j,List.getElem?_cons_succ,List.getElem?_append_right (by simpa using hj)];simp
  have nod:((ai-H.length) :: (((List.range m).map fun j=>B.length+ids j)++tl)).Nodup:=by
    refine List.nodup_cons.2 ⟨fun hm=>?_,List.nodup_append.2 ⟨?_,ht2,fun x hx y hy hxy=>?_⟩⟩
    · rcases List.mem_append.1 hm with h1|h1
      · obtain⟨j,hj,h2⟩:=List.mem_map.1 h1
        have:=har j (List.mem_range.1 hj)
        omega
      · have:=ht4 _ h1
        rw [show H.length+(ai-H.length)=ai by omega] at this
        exact hat this
    · refine List.pairwise_map.2 (List.nodup_range.imp_of_mem fun {a b} ha hb hab=>?_)
      have:=h.ne3 a b (List.mem_range.1 ha) (List.mem_range.1 hb) hab
      omega
    · obtain⟨j,hj,h2⟩:=List.mem_map.1 hx
      have h3:=(h.tlo _ (ht4 y hy)).2.2 j (List.mem_range.1 hj)
      omega
  generalize hpp:(ai-H.length) :: (((List.range m).map fun j=>B.length+ids j)++tl)=ps at *
  refine le_keep ps (by rw [goO_len,hps]) nod ?_ ?_
  · intro k p o h1 h2
    rcases Nat.eq_zero_or_pos k with rfl|hk
    · rw [goO_at0] at h1
      simp only [Option.some.injEq] at h1
      have h3:p=ai-H.length:=by rw [← hpp] at h2;simpa using h2.symm
      subst h1 h3
      refine .inr ⟨?_,?_⟩
      · simp only [AObj.sc,scL_all,rwV,List.all_eq_true,List.mem_map,List.mem_range]
        rintro _ ⟨j,hj,rfl⟩
        simp only [AV.sc,decide_eq_true_eq,goO_len]
        omega
      · rw [List.getElem?_append_right (by omega),e0,ga]
        simp only [AObj.ren,renL_map,rwV,List.map_map]
        congr 2
        apply List.map_congr_left
        intro j hj
        have hj:=List.mem_range.1 hj
        simp only [Function.comp,AV.ren,sh]
        rw [if_neg (by omega),show H.length+1+j-H.length=1+j by omega,getDj j hj]
        congr 1
        omega
    · obtain⟨j,rfl⟩:∃ j,k=1+j:=⟨k-1,by omega⟩
      by_cases hj:j<m
      · rw [goO_atj _ _ _ _ hj] at h1
        rw [getj j hj] at h2
        simp only [Option.some.injEq] at h1 h2
        subst h1 h2
        exact .inr ⟨by simp [AObj.sc,avL_sc],by rw [List.getElem?_append_right (by omega),show B.length+ids j-B.length=ids j by omega,h.rows j hj];simp [AObj.ren,avL_ren]⟩
      · rw [goO_att _ _ _ _ (by omega)] at h1
        rw [gett j (by omega)] at h2
        obtain⟨h3,h4,h5⟩:=ht3 _ _ _ h1 h2
        rcases h3 with rfl|⟨vs,b,rfl,h3⟩
        · exact .inl rfl
        · exact .inr ⟨h3.sc _,by rw [List.getElem?_append_right h4,h5];simp [AObj.ren,h3.ren]⟩
  · intro x hx
    simp only [List.mem_singleton] at hx
    subst hx
    have hsh:sh H.length ps H.length=ai:=by
      simp only [sh,Nat.lt_irrefl,if_false,Nat.sub_self,getD0];omega
    split at ht5
    · rename_i h0
      obtain⟨rfl,rfl⟩:=ht5
      refine⟨?_,?_⟩
      · simp [goV,h0,AV.sc,scL,goO_len];omega
      · simp [goV,h0,lk,AV.ren,renL,hsh]
    · rename_i h0
      obtain⟨q,rfl,rfl⟩:=ht5
      have hq:ps.getD (1+m) 0=q:=by rw [List.getD_eq_getElem?_getD,gett m (by omega)];simp
      have hsh2:sh H.length ps (H.length+1+m)=H.length+q:=by
        simp only [sh]
        rw [if_neg (by omega),show H.length+1+m-H.length=1+m by omega,hq]
      refine⟨?_,?_⟩
      · have:(lsO T.length (pv T)).length=1:=by simp [lsO,h0]
        simp [goV,h0,AV.sc,scL,goO_len,this];omega
      · simp [goV,h0,lk,AV.ren,renL,hsh,hsh2]
theorem GS.congr {A:Heap} {nb:Nat} {R:Nat→Nat→Int} {m:Nat} {N N':Nat→Int} {T:List (Int × Int)} {n:Nat} {ids:Nat→Nat} {av tv:AV} {G:Heap} (h:GS A nb R m N T n ids av tv G) (e:avL N nb=avL N' nb):GS A nb R m N' T n ids av tv G :=
  ⟨h.all,by rw [← e];exact h.now,h.rows,h.thin,h.alo,h.tlo,h.ne2,h.ne3⟩
def HB (A:Heap) (n:Nat) (tv:AV) (q:Nat) (hv:List AV) (G:Heap):Prop:=G[q]?=some (.cells hv true)∧q≠n∧∀ i,isId tv i→i≠A.length+q
theorem HB.app {A:Heap} {n:Nat} {tv:AV} {q:Nat} {hv:List AV} {G:Heap} (h:HB A n tv q hv G) (X:Heap):HB A n tv q hv (G++X):=⟨by rw [List.getElem?_append_left (List.getElem?_eq_some_iff.1 h.1).1];exact h.1,h.2⟩
theorem HB.set {A:Heap} {n:Nat} {tv:AV} {q:Nat} {hv:List AV} {G:Heap} (h:HB A n tv q hv G) (o:AObj):HB A n tv q hv (G.set n o):=⟨by rw [List.getElem?_set,if_neg (fun h2=>h.2.1 h2.symm)];exact h.1,h.2⟩
theorem HB.more {A:Heap} {n:Nat} {tv tv':AV} {q:Nat} {hv:List AV} {G G':Heap} (h:HB A n tv q hv G) (h2:∀ i,isId tv' i→A.length+G.length≤i)
    (h3:∀ i,i<A.length+G.length→¬ isId tv i→(A++G')[i]?=(A++G)[i]?):HB A n tv' q hv G':=by
  have hq:=(List.getElem?_eq_some_iff.1 h.1).1
  refine⟨?_,h.2.1,fun i hi=>by have:=h2 i hi;omega⟩
  have:=h3 (A.length+q) (by omega) (fun hh=>h.2.2 _ hh rfl)
  simp only [at_new] at this
  rw [this];exact h.1
theorem HB.rd {A:Heap} {n:Nat} {tv:AV} {q:Nat} {hv:List AV} {G:Heap} (h:HB A n tv q hv G) (X:Heap) (j k:Nat) (hk:j+k≤hv.length):rd (G++X) q j k=some ((hv.drop j).take k):=by
  have:=(h.app X).1
  unfold Go.Abs.rd
  simp only [this]
  rw [if_pos hk]
def rowF (c:Cv) (t:Tn) (P:Nat→Nat→Bool) (h s:Nat):Int:=befF c t P s h
def nowF (c:Cv) (t:Tn) (P:Nat→Nat→Bool) (h i s:Nat):Int:=if s<i then befF c t P s (h+1) else befF c t P s h
def thI (c:Cv) (t:Tn) (P:Nat→Nat→Bool) (h i:Nat):List (Int × Int):=thP c t P h++(thL c t P h i).map fun s=>((h:Int),s)
def pmE (xs:List (Int × Int)):List (AV × AV):=xs.map fun x=>(.agg [.int .i64 x.1,.int .i64 x.2],.bool true)
def pm (xs:List (Int × Int)):AObj:=.other (.map (pmE xs) (List.range xs.length) xs.length)
def GoAt (X:Heap) (v:AV) (nb:Nat) (R:Nat→Nat→Int) (m:Nat):Prop :=
  ∃ id,v=.slice id 0 m 1 false∧id<X.length∧∀ k,k<m→∃ rid,rd X id k 1=some [.slice rid 0 nb 1 false]∧rid<X.length∧∀ i,i<nb→rd X rid i 1=some [.int .i64 (R k i)]
theorem GoAt.app {X:Heap} {v:AV} {nb:Nat} {R:Nat→Nat→Int} {m:Nat} (h:GoAt X v nb R m) (G:Heap):GoAt (X++G) v nb R m:=by
  obtain⟨id,e,h1,h2⟩:=h
  refine⟨id,e,by simp;omega,fun k hk=>?_⟩
  obtain⟨rid,h3,h4,h5⟩:=h2 k hk
  exact⟨rid,by rw [rd_old _ h1];exact h3,by simp;omega,fun i hi=>by rw [rd_old _ h4];exact h5 i hi⟩
theorem goAt_of (H:Heap) (nb:Nat) (R:Nat→Nat→Int) (m:Nat) (T:List (Int × Int)):GoAt (H++goO H.length nb R m T) (.slice H.length 0 m 1 false) nb R m:=by
  refine⟨_,rfl,by simp [goO],fun k hk=>⟨H.length+1+k,?_,by simp [goO];omega,fun i hi=>?_⟩⟩
  · unfold rd
    rw [at_new0,goO_at0]
    simp only [rwV_length]
    rw [if_pos (by omega),rwV_at _ hk]
  · rw [Nat.add_assoc,rd_new]
    exact rd_cell (goO_atj _ _ _ _ hk) hi
theorem PAt.get2 {h:Heap} {v:AV} {l:List (Int × Int)} (hl:RAt h 2 v (pv l) l.length) {i:Nat} (hi:i<l.length):∃ id off ex,v=.slice id off l.length 2 ex∧rd h id (off+i * 2) 2=some [.int .i64 l[i].1,.int .i64 l[i].2]∧id<h.length:=by
  obtain⟨id,off,ex,rfl,hh⟩:=RAt.slice hl (by omega)
  refine⟨id,off,ex,rfl,?_,rd_lt hh⟩
  exact rd_row (f:=fun p:Int × Int=>[AV.int .i64 p.1,AV.int .i64 p.2]) (fun _=>rfl) hh hi
def icF (c:Cv) (s:Nat):Nat→Int
  | 0=>(c.b s).lo
  | h+1=>icF c s h-lossF c (endT true c) s h
def laF (x y:Int):Int:=(x+y-1).tdiv y
def ndF (c:Cv) (s:Nat):Nat→Int
  | 0=>0
  | h+1=>max (ndF c s h) (laF (asks c h-icF c s (h+1)) c.y1)
theorem icF_bd {c:Cv} {n:Nat} (hc:c.ok n) {s:Nat} (hs:s<c.bs.length):∀ {h:Nat},h≤c.hs.length→-1650 * (h:Int)≤icF c s h∧icF c s h≤2000
  | 0,_=>by
    have:=(hc.bok s hs).1
    rw [← Cv.b_eq hs] at this
    simp only [icF];omega
  | h+1,hh=>by
    have ih:=icF_bd hc hs (h:=h) (by omega)
    have hl:=loss_bd hc (endT_ok hc true) hs (show h<c.hs.length by omega)
    simp only [icF];omega
theorem laF_bd {x y:Int} (hy:1≤y∧y≤100) (hx:-2000≤x∧x≤20000):-2000≤laF x y∧laF x y≤20200:=by
  simp only [laF]
  have h2:((x+y-1).tdiv y).natAbs≤(x+y-1).natAbs:=by rw [Int.natAbs_tdiv];exact Nat.div_le_self _ _
  by_cases h0:0≤x+y-1
  · have:=Int.tdiv_nonneg h0 (show 0≤y by omega)
    omega
  · omega
theorem ndF_bd {c:Cv} {n:Nat} (hc:c.ok n) {s:Nat} (hs:s<c.bs.length):∀ {h:Nat},h≤c.hs.length→0≤ndF c s h∧ndF c s h≤20200
  | 0,_=>by simp [ndF]
  | h+1,hh=>by
    have ih:=ndF_bd hc hs (h:=h) (by omega)
    have hi:=icF_bd hc hs (h:=h+1) hh
    have ha:=asks_bd hc h
    have h8:=hc.hours
    have hr:=hc.rul
    simp only [Cv.ruled] at hr
    have:=laF_bd (x:=asks c h-icF c s (h+1)) (y:=c.y1) (by omega) (by omega)
    simp only [ndF];omega
theorem c_layers (H:Heap) (x y:Int) (hy:1≤y∧y≤100) (hx:-2000≤x∧x≤20000):ACalls Try.prog F.ice_layers [.int .i64 x,.int .i64 y] H (fun v h'=>v=.int .i64 (laF x y)∧h'=H):=by
  have hb:=laF_bd hy hx
  have hq:laF x y=(x+y-1).tdiv y:=rfl
  have hne:y≠0:=by omega
  refine acalls_of ok_ice_layers rfl fun hcl=>?_
  unfold ac_ice_layers zo
  simp only [argsT,Nat.zero_add,Nat.reduceAdd]
  repeat (first|(with_reducible first|apply X1|apply X2|apply X3|apply X8)|((with_reducible apply e_end);(simp;exact Rz))|((with_reducible apply O1);rfl;(simp (disch:=omega) [hne];exact Rz);exact Rz;(focus (first|(simp;done)|omega|(simp;omega)))))
  refine q_stay (.inr rfl) (by simp;exact Rz) ⟨by rw [hq],rfl⟩
structure RS (A:Heap) (nb:Nat) (R:Nat→Nat→Int) (m:Nat) (ids:Nat→Nat) (av:AV) (G:Heap):Prop where
  all:AAt (A++G) 1 av (rwV (fun k=>.slice (A.length+ids k) 0 nb 1 false) m) m
  rows:∀ k,k<m→G[ids k]?=some (.cells (avL (R k) nb) true)
  alo:∀ i,isId av i→A.length≤i∧∀ k,k<m→i≠A.length+ids k
  ne3:∀ k j,k<m→j<m→k≠j→ids k≠ids j
section
variable {A:Heap} {nb:Nat} {R:Nat→Nat→Int} {m:Nat} {ids:Nat→Nat} {av:AV} {G:Heap}
theorem RS.nil (A:Heap) (nb:Nat) (R:Nat→Nat→Int) (G:Heap):RS A nb R 0 (fun _=>0) .nilslice G:=⟨AAt.nil _ _,fun k hk=>by omega,fun i hi=>hi.elim,fun k j hk=>by omega⟩
theorem RS.klt (h:RS A nb R m ids av G) {k:Nat} (hk:k<m):ids k<G.length:=(List.getElem?_eq_some_iff.1 (h.rows k hk)).1
theorem RS.alt (h:RS A nb R m ids av G) {i:Nat} (hi:isId av i):i<A.length+G.length:=by have:=h.all.l.lt hi;simpa using this
theorem RS.keep (h:RS A nb R m ids av G) {G':Heap} (hk:∀ i,i<G.length→G'[i]?=G[i]?):RS A nb R m ids av G':=by
  have hA:∀ i,A.length≤i→i<A.length+G.length→(A++G')[i]?=(A++G)[i]?:=fun i h1 h2=>by
    rw [List.getElem?_append_right h1,List.getElem?_append_right h1,hk _ (by omega)]
  exact⟨h.all.keep fun i hi=>hA i (h.alo i hi).1 (h.alt hi),fun k hk'=>by rw [hk _ (h.klt hk')];exact h.rows k hk',h.alo,h.ne3⟩
theorem RS.app (h:RS A nb R m ids av G) (X:Heap):RS A nb R m ids av (G++X):=h.keep fun i hi=>List.getElem?_append_left hi
theorem RS.row (h:RS A nb R m ids av G) {G':Heap} {av':AV} {q:Nat} (hq:∀ k,k<m→q≠ids k) (h0:G'[q]?=some (.cells (avL (R m) nb) true))
    (h1:AAt (A++G') 1 av' (rwV (fun k=>.slice (A.length+ids k) 0 nb 1 false) m++[.slice (A.length+q) 0 nb 1 false]) (m+1)) (h2:∀ i,isId av' i→A.length+q<i∧A.length+G.length≤i)
    (h3:∀ i,i<A.length+G.length→¬ isId av i→(A++G')[i]?=(A++G)[i]?):RS A nb R (m+1) (fun k=>if k=m then q else ids k) av' G':=by
  have hG:∀ i,i<G.length→¬ isId av (A.length+i)→G'[i]?=G[i]?:=fun i h4 h5=>by
    have:=h3 (A.length+i) (by omega) h5
    simpa [at_new] using this
  refine⟨?_,fun k hk=>?_,fun i hi=>?_,fun k j hk hj hne=>?_⟩
  · have e:rwV (fun k=>.slice (A.length+if k=m then q else ids k) 0 nb 1 false) (m+1)=rwV (fun k=>.slice (A.length+ids k) 0 nb 1 false) m++[AV.slice (A.length+q) 0 nb 1 false]:=by
      simp only [rwV,List.range_succ,List.map_append,List.map_cons,List.map_nil,if_true]
      congr 1
      apply List.map_congr_left
      intro k hk
      have:=List.mem_range.1 hk
      rw [if_neg (by omega)]
    rw [e];exact h1
  · by_cases hkm:k=m
    · subst hkm;simp only [if_true];exact h0
    · have hk':k<m:=by omega
      simp only [if_neg hkm]
      rw [hG _ (h.klt hk') fun hh=>(h.alo _ hh).2 k hk' rfl];exact h.rows k hk'
  · have:=h2 i hi
    refine⟨by omega,fun k hk=>?_⟩
    by_cases hkm:k=m
    · simp only [hkm,if_true];omega
    · have:=h.klt (show k<m by omega);simp only [if_neg hkm];omega
  · by_cases hkm:k=m
    · have:=hq j (by omega)
      simp only [hkm,if_true,if_neg (show ¬ j=m by omega)];omega
    · by_cases hjm:j=m
      · have:=hq k (by omega)
        simp only [hjm,if_true,if_neg hkm];omega
      · simp only [if_neg hkm,if_neg hjm];exact h.ne3 k j (by omega) (by omega) hne
theorem RS.more (h:RS A nb R m ids av G) {G':Heap} {lv:AV} (hl:∀ i,isId lv i→¬ isId av i∧∀ k,k<m→i≠A.length+ids k)
    (h3:∀ i,i<A.length+G.length→¬ isId lv i→(A++G')[i]?=(A++G)[i]?):RS A nb R m ids av G':=by
  refine⟨h.all.keep fun i hi=>h3 i (h.alt hi) (fun hh=>(hl i hh).1 hi),fun k hk=>?_,h.alo,h.ne3⟩
  have:=h3 (A.length+ids k) (by have:=h.klt hk;omega) (fun hh=>(hl _ hh).2 k hk rfl)
  simp only [at_new] at this
  rw [this];exact h.rows k hk
theorem RS.le {H B:Heap} (h:RS A nb R m ids av G) (hA:A=H++B) (hm:0<m):Le H ⟨[(0,av)],A++G⟩ ⟨[(0,.slice H.length 0 m 1 false)],H++goO H.length nb R m []⟩:=by
  have hall:=h.all
  obtain⟨_,⟨_,h0⟩|⟨ai,_,rfl,ga⟩⟩:=hall
  · omega
  obtain⟨la,har⟩:=h.alo ai rfl
  rw [List.getElem?_append_right la] at ga
  have hlA:A.length=H.length+B.length:=by rw [hA];simp
  have e0:(ai-H.length-B.length)=ai-A.length:=by omega
  rw [hA,List.append_assoc]
  have getD0:((ai-H.length) :: ((List.range m).map fun j=>B.length+ids j)).getD 0 0=ai-H.length:=rfl
  have getDj:∀ j,j<m→((ai-H.length) :: ((List.range m).map fun j=>B.length+ids j)).getD (1+j) 0=B.length+ids j:=fun j hj=>by
    rw [List.getD_eq_getElem?_getD,Nat.add_comm 1 j,List.getElem?_cons_succ];simp [hj]
  have nod:((ai-H.length) :: ((List.range m).map fun j=>B.length+ids j)).Nodup:=by
    refine List.nodup_cons.2 ⟨fun hm=>?_,?_⟩
    · obtain⟨j,hj,h2⟩:=List.mem_map.1 hm
      have:=har j (List.mem_range.1 hj)
      omega
    · refine List.pairwise_map.2 (List.nodup_range.imp_of_mem fun {a b} ha hb hab=>?_)
      have:=h.ne3 a b (List.mem_range.1 ha) (List.mem_range.1 hb) hab
      omega
  have hps:((ai-H.length) :: ((List.range m).map fun j=>B.length+ids j)).length=1+m:=by simp;omega
  have getj:∀ j,j<m→((ai-H.length) :: ((List.range m).map fun j=>B.length+ids j))[1+j]?=some (B.length+ids j):=fun j hj=>by
    rw [Nat.add_comm 1 j,List.getElem?_cons_succ];simp [hj]
  generalize hpp:(ai-H.length) :: ((List.range m).map fun j=>B.length+ids j)=ps at *
  refine le_keep ps (by rw [goO_len,hps];simp [lsO]) nod ?_ ?_
  · intro k p o h1 h2
    rcases Nat.eq_zero_or_pos k with rfl|hk
    · rw [goO_at0] at h1
      simp only [Option.some.injEq] at h1
      have h3:p=ai-H.length:=by rw [← hpp] at h2;simpa using h2.symm
      subst h1 h3
      refine .inr ⟨?_,?_⟩
      · simp only [AObj.sc,scL_all,rwV,List.all_eq_true,List.mem_map,List.mem_range]
        rintro _ ⟨j,hj,rfl⟩
        simp only [AV.sc,decide_eq_true_eq,goO_len]
        omega
      · rw [List.getElem?_append_right (by omega),e0,ga]
        simp only [AObj.ren,renL_map,rwV,List.map_map]
        congr 2
        apply List.map_congr_left
        intro j hj
        have hj:=List.mem_range.1 hj
        simp only [Function.comp,AV.ren,sh]
        rw [if_neg (by omega),show H.length+1+j-H.length=1+j by omega,getDj j hj]
        congr 1
        omega
    · obtain⟨j,rfl⟩:∃ j,k=1+j:=⟨k-1,by omega⟩
      by_cases hj:j<m
      · rw [goO_atj _ _ _ _ hj] at h1
        rw [getj j hj] at h2
        simp only [Option.some.injEq] at h1 h2
        subst h1 h2
        exact .inr ⟨by simp [AObj.sc,avL_sc],by rw [List.getElem?_append_right (by omega),show B.length+ids j-B.length=ids j by omega,h.rows j hj];simp [AObj.ren,avL_ren]⟩
      · rw [goO_att _ _ _ _ (by omega)] at h1
        simp [lsO] at h1
  · intro x hx
    simp only [List.mem_singleton] at hx
    subst hx
    have hsh:sh H.length ps H.length=ai:=by
      simp only [sh,Nat.lt_irrefl,if_false,Nat.sub_self,getD0];omega
    exact⟨by simp [AV.sc,goO_len];omega,by simp [lk,AV.ren,hsh]⟩
end
def ndR (c:Cv) (s h:Nat):Int:=ndF c s (h+1)
set_option maxHeartbeats 4000000 in
theorem c_needs (H:Heap) (l:List Str) (c:Cv) (p:Plc) (hp:CvAt H c p) (hc:c.ok l.length) (hv:validL l) :
    ACalls Try.prog F.ice_coat_needs [.agg (c.av p)] H (fun v h'=>v=.slice H.length 0 c.bs.length 1 false∧h'=H++goO H.length c.hs.length (ndR c) c.bs.length []):=by
  have hp1:=hp.t
  have hp2:=rd_lt hp.b
  have hp3:=rd_lt hp.h
  have h12:=hv.1
  have hlen:=hc.len
  have h8:=hc.hours
  have hru:=hc.rul
  simp only [Cv.ruled] at hru
  have kw:=fun G=>c_worst (H++G) c p (hp.app G)
  have hcv:=hp
  simp only [Cv.av] at *
  refine acalls_of ok_ice_coat_needs rfl fun hcl=>?_
  unfold ac_ice_coat_needs zo
  simp only [argsT,Nat.zero_add,Nat.reduceAdd]
  repeat (first|(with_reducible first|apply X1|apply X2|apply X8)|((with_reducible apply e_end);(simp;exact Rz))|((with_reducible apply O1);rfl;(simp (disch:=omega);exact Rz);exact Rz;(focus (first|(simp;done)|omega|(simp;omega)))))
  (with_reducible apply e_call);(simp;exact Rz);exact kw _
  rintro _ _ ⟨rfl,rfl⟩
  simp only [Cv.tv]
  repeat (first|(with_reducible first|apply X1|apply X2|apply X6|apply X8)|((with_reducible apply e_end);(simp;exact Rz))|((first|((with_reducible apply O1);rfl)|((with_reducible apply O2);rfl));(simp (disch:=omega);exact Rz);exact Rz;(focus (first|(simp;done)|omega|(simp;omega)))))
  obtain⟨A,hA⟩:∃ A,A=H++[AObj.cells [.slice p.tid p.toff p.tn 9 p.tex,.slice p.bid p.boff c.bs.length 3 p.bex,.slice p.hid p.hoff c.hs.length 5 p.hex,.int .i64 c.w1,.int .i64 c.w2,.int .i64 c.y1,.int .i64 c.y2,.int .i64 c.rate,.int .i64 c.lim,.int .i64 c.base] true,.cells (c.tv p true) true]:=⟨_,rfl⟩
  have hAl:A.length=H.length+2:=by rw [hA];simp
  have g1:H.length<A.length:=by omega
  have g2:H.length+1<A.length:=by omega
  have g3:p.bid<A.length:=by omega
  have g4:p.hid<A.length:=by omega
  have g5:p.tid<A.length:=by omega
  have a0:rd A H.length 0 10=some (c.av p):=by rw [hA];simp [Cv.av]
  have a1:rd A H.length 1 1=some [.slice p.bid p.boff c.bs.length 3 p.bex]:=by rw [hA];simp
  have a2:rd A H.length 2 1=some [.slice p.hid p.hoff c.hs.length 5 p.hex]:=by rw [hA];simp
  have a5:rd A H.length 5 2=some [.int .i64 c.y1,.int .i64 c.y2]:=by rw [hA];simp
  have b0:rd A (H.length+1) 0 12=some (c.tv p true):=by rw [hA];simp [Cv.tv]
  have b10:rd A (H.length+1) 10 1=some [.fn (.func (mdF true)) [] []]:=by rw [hA];simp [Cv.tv]
  have hpA:CvAt A c p:=hA ▸ hcv.app _
  simp only [Cv.av] at a0
  simp only [Cv.tv] at b0
  have kl:=fun G h hh=>c_least (A++G) c p _ (hpA.app G) hc h hh
  have ki:=fun G s h hs hh=>c_iloss true (A++G) c p _ (hpA.app G) hc s h hs hh
  simp only [Cv.av] at kl
  simp only [Cv.tv] at ki
  refine e_loop (ι:={ x:Nat × Heap × AV × (Nat→Nat) // x.1≤c.bs.length∧RS A c.hs.length (ndR c) x.1 x.2.2.2 x.2.2.1 x.2.1 })
    (fun x=>[(1,.ptr H.length 0),(3,.ptr (H.length+1) 0),(4,x.1.2.2.1),(15,.int .i64 c.bs.length),(16,.int .i64 x.1.1)])
    (fun x=>A++x.1.2.1) (fun x=>c.bs.length-x.1.1) ⟨(0,[],.nilslice,fun _=>0),by simp,RS.nil _ _ _ _⟩ ?_ ?_
  · exact .inl (by simp [hA,Cv.tv])
  · rintro⟨⟨i,G,av,ids⟩,hi,hG⟩
    dsimp only at hi hG ⊢
    by_cases hlt:i<c.bs.length
    · have hlt2:(i:Int)<c.bs.length:=by omega
      have hy:=rd_sub' (hpA.bed hlt) 0 2 (by omega)
      simp only [Bd.av,List.drop_zero,List.take_succ_cons,List.take_zero,Nat.add_zero] at hy
      have hav:=fun k=>hG.all.l.sc (m:=A.length+(G.length+k)) (by simp)
      obtain hav0:av.sc (A.length+G.length)=true:=hav 0
      repeat (first|(with_reducible first|apply X1|apply X2|apply X5|apply X6|apply X8|apply Y9)|((with_reducible apply e_end);(simp;exact Rz))|((first|((with_reducible apply O1);rfl)|((with_reducible apply P1);rfl)|((with_reducible apply P2);rfl));(simp (disch:=omega) [hlt,hlt2,rd_old _ g1,rd_old _ g2,rd_old _ g3,a1,b10,hy];exact Rz);exact Rz;(focus (first|(simp;done)|omega|(simp;omega))))|((with_reducible apply Z9);(simp (disch:=omega) [hlt,hlt2,rd_old _ g1,rd_old _ g2,rd_old _ g3,a1,b10,hy];exact Rz)))
      (with_reducible apply d_callV);(simp;exact Rz);(simp;exact Rz);exact c_made true _ _ _;(focus (first|(simp;done)|(simp;omega)))
      have e0:mkF true (c.b i).lo (c.b i).hi=icF c i 0:=rfl
      rw [e0]
      repeat (first|(with_reducible first|apply X1|apply X2|apply X6|apply X8)|((with_reducible first|apply e_end|apply d_end);(simp;exact Rz))|((first|((with_reducible apply O1);rfl)|((with_reducible apply P1);rfl));(simp (disch:=omega) [rd_old _ g1,a2];exact Rz);exact Rz;(focus (first|(simp;done)|omega|(simp;omega)))))
      refine e_loop (ι:={ x:Nat × Heap × AV // x.1≤c.hs.length∧RS A c.hs.length (ndR c) i ids av x.2.1∧AAt (A++x.2.1) 1 x.2.2 (avL (ndR c i) x.1) x.1∧∀ q,isId x.2.2 q→A.length≤q∧¬ isId av q∧∀ k,k<i→q≠A.length+ids k })
        (fun x=>[(1,.ptr H.length 0),(3,.ptr (H.length+1) 0),(4,av),(5,.int .i64 i),(6,.int .i64 (icF c i x.1.1)),(7,.int .i64 (ndF c i x.1.1)),(8,x.1.2.2),(15,.int .i64 c.bs.length),(16,.int .i64 i),(32,.int .i64 c.hs.length),(33,.int .i64 x.1.1)])
        (fun x=>A++x.1.2.1) (fun x=>c.hs.length-x.1.1) ⟨(0,G,.nilslice),by simp,hG,AAt.nil _ _,fun q hq=>hq.elim⟩ ?_ ?_
      · exact .inl rfl
      · clear hG hav hav0
        clear G
        rintro⟨⟨j,G,lv⟩,hj,hG,hl,hlq⟩
        dsimp only at hj hG hl hlq ⊢
        have hav:=fun k=>hG.all.l.sc (m:=A.length+(G.length+k)) (by simp)
        have hlv:=fun k=>hl.l.sc (m:=A.length+(G.length+k)) (by simp)
        obtain hav0:av.sc (A.length+G.length)=true:=hav 0
        obtain hlv0:lv.sc (A.length+G.length)=true:=hlv 0
        by_cases hjl:j<c.hs.length
        · have hjl2:(j:Int)<c.hs.length:=by omega
          have i1:=icF_bd hc hlt (h:=j) hj
          have i2:=icF_bd hc hlt (h:=j+1) (by omega)
          have n1:=ndF_bd hc hlt (h:=j) hj
          have ab:=asks_bd hc j
          have eI:icF c i (j+1)=icF c i j-lossF c (endT true c) i j:=rfl
          have eN:ndF c i (j+1)=max (ndF c i j) (laF (asks c j-icF c i (j+1)) c.y1):=rfl
          rw [eI] at i2
          have ki:=fun G=>ki G i j hlt hjl
          have kl:=fun G=>kl G j hjl
          repeat (first|(with_reducible first|apply X1|apply X2|apply X5|apply X6|apply X8)|((with_reducible apply e_end);(simp;exact Rz))|((with_reducible apply O1);rfl;(simp (disch:=omega) [hjl,hjl2,rd_old _ g2,b0];exact Rz);exact Rz;(focus (first|(simp;done)|omega|(simp;omega))))|((with_reducible apply Z9);(simp (disch:=omega) [hjl,hjl2,rd_old _ g2,b0];exact Rz)))
          (with_reducible apply e_call);(simp;exact Rz);exact ki _
          rintro _ _ ⟨rfl,rfl⟩
          repeat (first|(with_reducible first|apply X1|apply X8|apply Y9)|((with_reducible apply e_end);(simp;exact Rz))|((first|((with_reducible apply O1);rfl)|((with_reducible apply P1);rfl));(simp (disch:=omega);exact Rz);exact Rz;(focus (first|(simp;done)|omega|(simp;omega)))))
          repeat ((first|((with_reducible apply P1);rfl)|((with_reducible apply P2);rfl));(simp (disch:=omega) [rd_old _ g1,a0];exact Rz);exact Rz;(focus (first|(simp;done)|omega|(simp;omega))))
          (with_reducible apply d_call);(simp;exact Rz);exact kl _;(focus (first|(simp;done)|(simp;omega)))
          repeat (first|((with_reducible apply P1);rfl;(simp (disch:=omega) [rd_old _ g1,rd_old _ g2,b10,a5];exact Rz);exact Rz;(focus (first|(simp;done)|omega|(simp;omega))))|((with_reducible apply P6);rfl;(simp (disch:=omega) [rd_old _ g1,rd_old _ g2,b10,a5];exact Rz);exact Rz;(focus (first|(simp [pr];done)|(simp [pr];omega)))))
          (with_reducible apply d_callV);(simp;exact Rz);(simp;exact Rz);exact c_made true _ _ _;(focus (first|(simp;done)|(simp;omega)))
          have e1:mkF true c.y1 c.y2=c.y1:=rfl
          rw [e1]
          skip
          (with_reducible apply d_call);(simp;exact Rz);exact c_layers _ _ _ (by omega) (by omega);(focus (first|(simp;done)|(simp;omega)))
          have eN':max (ndF c i j) (laF (asks c j-(icF c i j-lossF c (endT true c) i j)) c.y1)=ndF c i (j+1):=by rw [eN,eI]
          generalize laF (asks c j-(icF c i j-lossF c (endT true c) i j)) c.y1=la at *
          repeat ((with_reducible apply P3);rfl;(simp (disch:=omega);exact Rz);exact Rz;(focus (first|(simp;done)|omega|(simp;omega))))
          (with_reducible apply d_call);(simp;exact Rz);exact c_greatest1 _ (ndF c i j) la (A.length+G.length) 0 true (by simp);(focus (first|(simp;done)|(simp;omega)))
          rw [eN',← eI]
          repeat (first|(with_reducible first|apply X2|apply X8)|((with_reducible apply d_end);(simp;exact Rz))|((first|((with_reducible apply O1);rfl)|((with_reducible apply P1);rfl));(simp (disch:=omega);exact Rz);exact Rz;(focus (first|(simp;done)|omega|(simp;omega)))))
          refine e_appA (A:=A) (G:=G++[.cells [.int .i64 la] true,.cells [.int .i64 (ndF c i (j+1))] true]) (cs:=avL (ndR c i) j) (n:=j) (m:=1) (new:=[.int .i64 (ndF c i (j+1))]) (by simp) (by simp;exact Rz) (by simp;exact Rz) (by have:=hl.app [.cells [.int .i64 la] true,.cells [.int .i64 (ndF c i (j+1))] true];simpa using this) (fun k hk=>(hlq k hk).1) (by simp) (by simp) (by omega) (by omega) ?_
          intro G2 v2 f3 f4 f5 f6 f7
          simp only [List.append_assoc,List.cons_append,List.nil_append,List.length_append,List.length_cons,List.length_nil] at f5 f6 f7
          have hv2:=fun k=>f3.l.sc (m:=A.length+(G2.length+k)) (by simp)
          have hav2:∀ k,av.sc (A.length+(G2.length+k))=true:=fun k=>hG.all.l.sc (by simp;omega)
          obtain⟨hv20,hav20⟩:v2.sc (A.length+G2.length)=true∧av.sc (A.length+G2.length)=true:=⟨hv2 0,hav2 0⟩
          repeat (first|(with_reducible first|apply X2|apply X8|apply Y2)|((with_reducible apply e_end);(simp;exact Rz))|((with_reducible apply O1);rfl;(simp (disch:=omega);exact Rz);exact Rz;(focus (first|(simp;done)|omega|(simp;omega)))))
          refine q_again ⟨(j+1,G2,v2),by dsimp only;omega,?_,?_,fun k hk=>?_⟩ (by dsimp only;omega) (.inl (by simp))
          · exact hG.more (fun k hk=>(hlq k hk).2) (fun k hk hv=>by
              rw [f5 k (by omega) hv]
              rcases Nat.lt_or_ge k A.length with h1|h1
              · rw [List.getElem?_append_left h1,List.getElem?_append_left h1]
              · rw [List.getElem?_append_right h1,List.getElem?_append_right h1,List.getElem?_append_left (by omega)])
          · dsimp only
            rw [avL_succ];exact f3
          · have:=f6 k hk
            refine⟨by omega,fun hh=>by have:=hG.alt hh;omega,fun m hm=>by have:=hG.klt hm;omega⟩
        · have hjl2:¬ (j:Int)<c.hs.length:=by omega
          obtain rfl:j=c.hs.length:=by omega
          obtain⟨_,⟨_,h0⟩|⟨li,_,rfl,gl⟩⟩:=hl
          · omega
          have hli:=hlq li rfl
          have hll:=(List.getElem?_eq_some_iff.1 gl).1
          simp only [List.length_append] at hll
          rw [List.getElem?_append_right hli.1] at gl
          have eli:A.length+(li-A.length)=li:=by omega
          repeat (first|(with_reducible first|apply X1|apply X2|apply X4|apply X8|apply Y1|apply Y4|apply Y6)|((with_reducible apply e_end);(simp;exact Rz))|((with_reducible apply O1);rfl;(simp (disch:=omega) [hjl2];exact Rz);exact Rz;(focus (first|(simp;done)|omega|(simp;omega))))|((with_reducible apply W3);(simp (disch:=omega) [hjl2];exact Rz)))
          refine e_appA (A:=A) (G:=G++[.cells [.slice li 0 c.hs.length 1 false] true]) (cs:=rwV (fun k=>.slice (A.length+ids k) 0 c.hs.length 1 false) i) (n:=i) (m:=1) (new:=[.slice li 0 c.hs.length 1 false]) (by simp) (by simp;exact Rz) (by simp;exact Rz) (hG.app _).all (fun k hk=>(hG.alo k hk).1) (by simp) (by simp) (by omega) (by omega) ?_
          intro G2 v2 f3 f4 f5 f6 f7
          simp only [List.append_assoc,List.cons_append,List.nil_append,List.length_append,List.length_cons,List.length_nil] at f5 f6 f7
          have hv2:=fun k=>f3.l.sc (m:=A.length+(G2.length+k)) (by simp)
          obtain hv20:v2.sc (A.length+G2.length)=true:=hv2 0
          have hk5:∀ k,k<A.length+G.length→¬ isId av k→(A++G2)[k]?=(A++G)[k]?:=fun k hk hv=>by
            rw [f5 k (by omega) hv]
            rcases Nat.lt_or_ge k A.length with h1|h1
            · rw [List.getElem?_append_left h1,List.getElem?_append_left h1]
            · rw [List.getElem?_append_right h1,List.getElem?_append_right h1,List.getElem?_append_left (by omega)]
          repeat (first|(with_reducible first|apply X2|apply X8|apply Y2)|((with_reducible apply e_end);(simp;exact Rz))|((with_reducible apply O1);rfl;(simp (disch:=omega);exact Rz);exact Rz;(focus (first|(simp;done)|omega|(simp;omega)))))
          refine q_again ⟨(i+1,G2,v2,fun k=>if k=i then li-A.length else ids k),by dsimp only;omega,?_⟩ (by dsimp only;omega) (.inl (by simp))
          dsimp only
          refine hG.row (q:=li-A.length) (fun k hk=>by have:=hli.2.2 k hk;omega) ?_ (by rw [eli];exact f3) (fun k hk=>by have:=f6 k hk;omega) hk5
          have:=hk5 li hll hli.2.1
          rw [List.getElem?_append_right hli.1,List.getElem?_append_right hli.1] at this
          rw [this];exact gl
    · have hlt2:¬ (i:Int)<c.bs.length:=by omega
      obtain rfl:i=c.bs.length:=by omega
      have hav:=fun k=>hG.all.l.sc (m:=A.length+(G.length+k)) (by simp)
      obtain hav0:av.sc (A.length+G.length)=true:=hav 0
      repeat (first|(with_reducible first|apply X1|apply X2|apply X3|apply X4|apply X8|apply Y1|apply Y4|apply Y6)|((with_reducible apply e_end);(simp;exact Rz))|((with_reducible apply O1);rfl;(simp (disch:=omega) [hlt2];exact Rz);exact Rz;(focus (first|(simp;done)|omega|(simp;omega))))|((with_reducible apply W3);(simp (disch:=omega) [hlt2];exact Rz)))
      exact q_post (.inr rfl) (by simp;exact Rz) (hG.le hA (by omega)) ⟨rfl,rfl⟩
theorem ndF_mono (c:Cv) (s h:Nat):ndF c s h≤ndF c s (h+1):=by simp only [ndF];omega
theorem c_greatestN (H:Heap) (c:Cv) (s n id:Nat) (ex:Bool) (hid:id<H.length) (hn:n≤8) (hs:∀ i,i<n→rd H id i 1=some [.int .i64 (ndF c s (i+1))]):ACalls Try.prog F.ice_greatest [.int .i64 0,.slice id 0 n 1 ex] H (fun v h'=>v=.int .i64 (ndF c s n)∧h'=H):=by
  refine acalls_of ok_ice_greatest rfl fun hcl=>?_
  unfold ac_ice_greatest zo
  simp only [argsT,Nat.zero_add,Nat.reduceAdd]
  repeat (first|(with_reducible first|apply X1|apply X2|apply X6|apply X8)|((with_reducible apply e_end);(simp;exact Rz))|((with_reducible apply O1);rfl;(simp (disch:=omega);exact Rz);exact Rz;(focus (first|(simp;done)|omega|(simp;omega)))))
  refine e_loop (ι:={ i:Nat // i≤n })
    (fun i=>[(0,.int .i64 (ndF c s i.1)),(7,.slice id 0 n 1 ex),(8,.int .i64 n),(9,.int .i64 i.1)]) (fun _=>H) (fun i=>n-i.1) ⟨0,by simp⟩ ?_ ?_
  · exact .inr <| le_id (by simp [hid,ndF])
  · rintro⟨i,hi⟩
    dsimp only
    by_cases hlt:i<n
    · have hlt2:(i:Int)<n:=by omega
      have hx:=hs i hlt
      have hm:=ndF_mono c s i
      by_cases hg:ndF c s i<ndF c s (i+1)
      · repeat (first|(with_reducible first|apply X1|apply X2|apply X5|apply X6|apply X8|apply Y2)|((with_reducible apply e_end);(simp;exact Rz))|((with_reducible apply O1);rfl;(simp (disch:=omega) [hlt,hlt2,hx,hg];exact Rz);exact Rz;(focus (first|(simp;done)|omega|(simp;omega))))|((with_reducible apply Z9);(simp (disch:=omega) [hlt,hlt2,hx,hg];exact Rz)))
        exact q_again ⟨i+1,hlt⟩ (by dsimp only;omega) (.inr (le_id (by simp [hid])))
      · have he:ndF c s i=ndF c s (i+1):=by omega
        repeat (first|(with_reducible first|apply X1|apply X2|apply X5|apply X6|apply X8|apply Y2)|((with_reducible apply e_end);(simp;exact Rz))|((with_reducible apply O1);rfl;(simp (disch:=omega) [hlt,hlt2,hx,hg];exact Rz);exact Rz;(focus (first|(simp;done)|omega|(simp;omega))))|((with_reducible apply Z9);(simp (disch:=omega) [hlt,hlt2,hx,hg];exact Rz))|((with_reducible apply W3);(simp (disch:=omega) [hlt,hlt2,hx,hg];exact Rz)))
        exact q_again ⟨i+1,hlt⟩ (by dsimp only;omega) (.inr (le_id (by simp [hid,he])))
    · have hlt2:¬ (i:Int)<n:=by omega
      obtain rfl:i=n:=by omega
      repeat (first|(with_reducible first|apply X1|apply X2|apply X3|apply X4|apply X8|apply Y1|apply Y4|apply Y6)|((with_reducible apply e_end);(simp;exact Rz))|((with_reducible apply O1);rfl;(simp (disch:=omega) [hlt2];exact Rz);exact Rz;(focus (first|(simp;done)|omega|(simp;omega))))|((with_reducible apply W3);(simp (disch:=omega) [hlt2];exact Rz)))
      refine q_stay (.inr rfl) (by simp;exact Rz) ⟨rfl,rfl⟩
set_option maxHeartbeats 1000000 in
theorem c_iNeedV (H:Heap) (l:List Str) (c:Cv) (p:Plc) (hp:CvAt H c p) (ht:TrAt H l p) (hc:c.ok l.length) (hv:validL l) :
    ACalls Try.prog F.ice_Need [.agg (c.av p)] H (fun v h'=>v=.tuple [lsV H 1 c.bs.length,.int .i64 0]∧h'=H++lsO c.bs.length (iv (tnL (fun s=>ndF c s c.hs.length) c.bs.length))):=by
  have hp1:=hp.t
  have hp2:=rd_lt hp.b
  have hp3:=rd_lt hp.h
  have h12:=hv.1
  have hlen:=hc.len
  have h8:=hc.hours
  have k0:=fun G=>c_iCheck (H++G) l c p (hp.app G) (ht.app G) (by omega) (by omega) (by omega)
  have kn:=fun G=>c_needs (H++G) l c p (hp.app G) hc hv
  have hgo:=fun G=>goAt_of (H++G) c.hs.length (ndR c) c.bs.length []
  simp only [Cv.av] at *
  refine acalls_of ok_ice_Need rfl fun hcl=>?_
  unfold ac_ice_Need zo
  simp only [argsT,Nat.zero_add,Nat.reduceAdd]
  repeat (first|(with_reducible first|apply X1|apply X2|apply X8)|((with_reducible apply e_end);(simp;exact Rz))|((with_reducible apply O1);rfl;(simp (disch:=omega);exact Rz);exact Rz;(focus (first|(simp;done)|omega|(simp;omega)))))
  (with_reducible apply e_call);(simp;exact Rz);exact k0 _
  rintro _ _ ⟨rfl,e,rfl,he⟩
  obtain rfl:e=0:=by
    rcases he with h|h|h
    · exact h.2.2
    · exact absurd hv h.1
    · exact absurd hc h.2.1
  repeat (first|(with_reducible first|apply X1|apply X2|apply X5|apply X8)|((with_reducible apply e_end);(simp;exact Rz))|((with_reducible apply O1);rfl;(simp (disch:=omega);exact Rz);exact Rz;(focus (first|(simp;done)|omega|(simp;omega))))|((with_reducible apply W3);(simp (disch:=omega);exact Rz)))
  (with_reducible apply e_call);(simp;exact Rz);exact kn _
  rintro _ _ ⟨rfl,rfl⟩
  repeat (first|(with_reducible first|apply X6|apply X8)|((with_reducible apply e_end);(simp;exact Rz))|((with_reducible apply O1);rfl;(simp (disch:=omega);exact Rz);exact Rz;(focus (first|(simp;done)|omega|(simp;omega)))))
  have hgo:=hgo [AObj.cells [.slice p.tid p.toff p.tn 9 p.tex,.slice p.bid p.boff c.bs.length 3 p.bex,.slice p.hid p.hoff c.hs.length 5 p.hex,.int .i64 c.w1,.int .i64 c.w2,.int .i64 c.y1,.int .i64 c.y2,.int .i64 c.rate,.int .i64 c.lim,.int .i64 c.base] true]
  obtain⟨A,hA⟩:∃ A,A=H++([AObj.cells [.slice p.tid p.toff p.tn 9 p.tex,.slice p.bid p.boff c.bs.length 3 p.bex,.slice p.hid p.hoff c.hs.length 5 p.hex,.int .i64 c.w1,.int .i64 c.w2,.int .i64 c.y1,.int .i64 c.y2,.int .i64 c.rate,.int .i64 c.lim,.int .i64 c.base] true]++goO (H++[AObj.cells [.slice p.tid p.toff p.tn 9 p.tex,.slice p.bid p.boff c.bs.length 3 p.bex,.slice p.hid p.hoff c.hs.length 5 p.hex,.int .i64 c.w1,.int .i64 c.w2,.int .i64 c.y1,.int .i64 c.y2,.int .i64 c.rate,.int .i64 c.lim,.int .i64 c.base] true]).length c.hs.length (ndR c) c.bs.length []):=⟨_,rfl⟩
  rw [List.append_assoc] at hgo
  rw [← hA] at hgo
  have hAH:H.length≤A.length:=by rw [hA];simp
  obtain⟨gid,hge,hgid,hgr⟩:=hgo
  have hgl:(H++[AObj.cells [.slice p.tid p.toff p.tn 9 p.tex,.slice p.bid p.boff c.bs.length 3 p.bex,.slice p.hid p.hoff c.hs.length 5 p.hex,.int .i64 c.w1,.int .i64 c.w2,.int .i64 c.y1,.int .i64 c.y2,.int .i64 c.rate,.int .i64 c.lim,.int .i64 c.base] true]).length=gid:=by injection hge
  have hgl2:H.length+1=gid:=by simpa using hgl
  refine e_loop (ι:={ x:Nat × Heap × AV // x.1≤c.bs.length∧AAt (A++x.2.1) 1 x.2.2 (iv (tnL (fun s=>ndF c s c.hs.length) x.1)) x.1∧∀ q,isId x.2.2 q→A.length≤q })
    (fun x=>[(5,x.1.2.2),(15,.slice gid 0 c.bs.length 1 false),(16,.int .i64 c.bs.length),(17,.int .i64 x.1.1)])
    (fun x=>A++x.1.2.1) (fun x=>c.bs.length-x.1.1) ⟨(0,[],.nilslice),by simp,AAt.nil _ _,fun q hq=>hq.elim⟩ ?_ ?_
  · refine .inl ?_
    dsimp only
    rw [List.append_nil,hA,← hgl2];simp
  · rintro⟨⟨i,G,lv⟩,hi,hl,hlq⟩
    dsimp only at hi hl hlq ⊢
    have hlv:=fun k=>hl.l.sc (m:=A.length+(G.length+k)) (by simp)
    obtain hlv0:lv.sc (A.length+G.length)=true:=hlv 0
    by_cases hlt:i<c.bs.length
    · have hlt2:(i:Int)<c.bs.length:=by omega
      obtain⟨rid,r1,r2,r3⟩:=hgr i hlt
      have nb:=ndF_bd hc hlt (h:=c.hs.length) (Nat.le_refl _)
      have kg:=c_greatestN (A++G) c i c.hs.length rid false (by simp;omega) h8.2 (fun j hj=>by rw [rd_old _ r2];exact r3 j hj)
      repeat (first|(with_reducible first|apply X1|apply X2|apply X5|apply X6|apply X8)|((with_reducible apply e_end);(simp;exact Rz))|((with_reducible apply O1);rfl;(simp (disch:=omega) [hlt,hlt2,rd_old _ hgid,r1];exact Rz);exact Rz;(focus (first|(simp;done)|omega|(simp;omega))))|((with_reducible apply Z9);(simp (disch:=omega) [hlt,hlt2,rd_old _ hgid,r1];exact Rz)))
      (with_reducible apply e_call);(simp;exact Rz);exact kg
      rintro _ _ ⟨rfl,rfl⟩
      repeat ((with_reducible apply O1);rfl;(simp (disch:=omega);exact Rz);exact Rz;(focus (first|(simp;done)|omega|(simp;omega))))
      refine e_appA (A:=A) (G:=G++[.cells [.int .i64 (ndF c i c.hs.length)] true]) (cs:=iv (tnL (fun s=>ndF c s c.hs.length) i)) (n:=i) (m:=1) (new:=[.int .i64 (ndF c i c.hs.length)]) (by simp) (by simp;exact Rz) (by simp;exact Rz) (by have:=hl.app [.cells [.int .i64 (ndF c i c.hs.length)] true];simpa using this) (fun k hk=>hlq k hk) (by simp) (by simp) (by omega) (by omega) ?_
      intro G2 v2 f3 f4 f5 f6 f7
      have hv2:=fun k=>f3.l.sc (m:=A.length+(G2.length+k)) (by simp)
      obtain hv20:v2.sc (A.length+G2.length)=true:=hv2 0
      repeat (first|(with_reducible first|apply X2|apply X8|apply Y2)|((with_reducible apply e_end);(simp;exact Rz))|((with_reducible apply O1);rfl;(simp (disch:=omega);exact Rz);exact Rz;(focus (first|(simp;done)|omega|(simp;omega)))))
      refine q_again ⟨(i+1,G2,v2),by dsimp only;omega,?_,f4⟩ (by dsimp only;omega) (.inl (by simp))
      dsimp only
      rw [tnL_succ,iv_app];exact f3
    · have hlt2:¬ (i:Int)<c.bs.length:=by omega
      obtain rfl:i=c.bs.length:=by omega
      repeat (first|(with_reducible first|apply X1|apply X2|apply X3|apply X4|apply X8|apply Y1|apply Y4|apply Y6)|((with_reducible apply e_end);(simp;exact Rz))|((with_reducible apply O1);rfl;(simp (disch:=omega) [hlt2];exact Rz);exact Rz;(focus (first|(simp;done)|omega|(simp;omega))))|((with_reducible apply W3);(simp (disch:=omega) [hlt2];exact Rz)))
      have hl2:=hl
      have e1:A++G=H++(A.drop H.length++G):=by rw [← List.append_assoc];congr 1;rw [hA];simp
      rw [e1] at hl2 ⊢
      exact q_post (v':=.tuple [lsV H 1 c.bs.length,.int .i64 0]) (.inr rfl) (by simp;exact Rz) (le_ls (fun x=>.tuple [x,.int .i64 0]) (fun _ _=>by simp [AV.ren,renL]) (fun _ _ h=>by simpa [AV.sc,scL] using h) (iv_plain _) hl2 (fun q hq=>by have:=hlq q hq;omega)) ⟨rfl,rfl⟩
end Go.Proofs
