/- Several texts as one. -/
import Derived.Test.YtgaojjbkaoankaaPQA
import Derived.Test.YtgaojjbkaoankaaRA
import Derived.Test.YtgaojjbkaoankaaKK
import Derived.Test.YtgaojjbkaoankaaPC
/- The reference's plan: what stands in memory. -/
namespace Go.Proofs
open Go.Abs
attribute [local simp] AOp.den AOpd.ev lk cellsOf rd_new rd_new0 rd_zero rd_succ wr_new wr_new0 wr_zero wr_succ splice fillA binA scal sliceCells List.length_append argsT AV.sc scL AObj.sc resV getAll AR.get AOp.slots opdSlots opdsSlots partSlots eqAt at_new0 at_new set_new0 set_new wrap64
set_option linter.unusedSimpArgs false
set_option linter.unusedVariables false
open Go.Hall
structure QS (H X:Heap) (bx:List AV) (nid m0 N M:Nat) (nr:Nat→Nat) (need:Nat→Nat→Int) (may:Nat→Nat→Bool) (hands:Nat→Int) (O:Nat→List Int) (vs:Nat→AV):Prop where
  pre:∀ j,j<H.length→X[j]?=H[j]?
  box:X[H.length]?=some (.cells bx true)
  nd:X[nid]?=some (.cells (rwV (fun k=>.slice (nr k) 0 M 1 false) N) true)
  nrow:∀ k,k<N→X[nr k]?=some (.cells (avL (need k) M) true)
  hd:X[m0+1]?=some (.cells (avL hands M) true)
  md:X[m0+2]?=some (.cells (rwV (fun k=>.slice (m0+3+k) 0 M 1 true) N) true)
  mrow:∀ k,k<N→X[m0+3+k]?=some (.cells (avB (may k) M) true)
  od:X[m0+3+N]?=some (.cells (rwV vs M) true)
  orow:∀ h,h<M→AAt X 1 (vs h) (iv (O h)) (O h).length
  b0:H.length<nid∧nid<m0
  b1:∀ k,k<N→H.length<nr k∧nr k≠nid∧(nr k<m0∨m0+3+N<nr k)
  b2:∀ h,h<M→∀ i,isId (vs h) i→m0+3+N<i∧∀ k,k<N→i≠nr k
  b3:∀ h j,h<M→j<M→h≠j→∀ i,isId (vs h) i→¬ isId (vs j) i
section
variable {H X:Heap} {bx:List AV} {nid m0 N M:Nat} {nr:Nat→Nat} {need:Nat→Nat→Int} {may:Nat→Nat→Bool} {hands:Nat→Int} {O:Nat→List Int} {vs:Nat→AV}
theorem QS.olt (h:QS H X bx nid m0 N M nr need may hands O vs):m0+3+N<X.length:=(List.getElem?_eq_some_iff.1 h.od).1
theorem QS.nlt (h:QS H X bx nid m0 N M nr need may hands O vs) {k:Nat} (hk:k<N):nr k<X.length:=(List.getElem?_eq_some_iff.1 (h.nrow k hk)).1
theorem QS.app (h:QS H X bx nid m0 N M nr need may hands O vs) (G:Heap):QS H (X++G) bx nid m0 N M nr need may hands O vs:=by
  have lt:=h.olt
  have old:∀ j,j<X.length→(X++G)[j]?=X[j]?:=fun j hj=>List.getElem?_append_left hj
  have hb:=h.b0
  exact⟨fun j hj=>by rw [old j (by omega)];exact h.pre j hj,by rw [old _ (by omega)];exact h.box,by rw [old _ (by omega)];exact h.nd,fun k hk=>by rw [old _ (h.nlt hk)];exact h.nrow k hk,
    by rw [old _ (by omega)];exact h.hd,by rw [old _ (by omega)];exact h.md,fun k hk=>by rw [old _ (by omega)];exact h.mrow k hk,by rw [old _ lt];exact h.od,fun k hk=>(h.orow k hk).app G,h.b0,h.b1,h.b2,h.b3⟩
theorem QS.setM (h:QS H X bx nid m0 N M nr need may hands O vs) {k:Nat} (hk:k<N) {may':Nat→Nat→Bool} (hm:∀ j,j≠k→may' j=may j):QS H (X.set (m0+3+k) (.cells (avB (may' k) M) true)) bx nid m0 N M nr need may' hands O vs:=by
  have lt:=h.olt
  have hb:=h.b0
  have old:∀ j,j≠m0+3+k→(X.set (m0+3+k) (.cells (avB (may' k) M) true))[j]?=X[j]?:=fun j hj=>by rw [List.getElem?_set,if_neg (fun x=>hj x.symm)]
  refine⟨fun j hj=>by rw [old j (by omega)];exact h.pre j hj,by rw [old _ (by omega)];exact h.box,by rw [old _ (by omega)];exact h.nd,fun j hj=>by have:=h.b1 j hj;rw [old _ (by omega)];exact h.nrow j hj,
    by rw [old _ (by omega)];exact h.hd,by rw [old _ (by omega)];exact h.md,fun j hj=>?_,by rw [old _ (by omega)];exact h.od,fun j hj=>(h.orow j hj).keep fun i hi=>old i (by have:=(h.b2 j hj i hi).1;omega),h.b0,h.b1,h.b2,h.b3⟩
  by_cases e:j=k
  · subst e;rw [List.getElem?_set,if_pos rfl,if_pos (by omega)]
  · rw [old _ (by omega),hm j e];exact h.mrow j hj
theorem QS.setH (h:QS H X bx nid m0 N M nr need may hands O vs) (hands':Nat→Int):QS H (X.set (m0+1) (.cells (avL hands' M) true)) bx nid m0 N M nr need may hands' O vs:=by
  have lt:=h.olt
  have hb:=h.b0
  have old:∀ j,j≠m0+1→(X.set (m0+1) (.cells (avL hands' M) true))[j]?=X[j]?:=fun j hj=>by rw [List.getElem?_set,if_neg (fun x=>hj x.symm)]
  exact⟨fun j hj=>by rw [old j (by omega)];exact h.pre j hj,by rw [old _ (by omega)];exact h.box,by rw [old _ (by omega)];exact h.nd,fun j hj=>by have:=h.b1 j hj;rw [old _ (by omega)];exact h.nrow j hj,
    by rw [List.getElem?_set,if_pos rfl,if_pos (by omega)],by rw [old _ (by omega)];exact h.md,fun j hj=>by rw [old _ (by omega)];exact h.mrow j hj,by rw [old _ (by omega)];exact h.od,fun j hj=>(h.orow j hj).keep fun i hi=>old i (by have:=(h.b2 j hj i hi).1;omega),h.b0,h.b1,h.b2,h.b3⟩
theorem QS.setN (h:QS H X bx nid m0 N M nr need may hands O vs) {k w:Nat} (hk:k<N) {f:Nat→Int} (hw:X[w]?=some (.cells (avL f M) true)) (hw1:H.length<w∧w≠nid∧(w<m0∨m0+3+N<w)) (hw2:∀ h,h<M→∀ i,isId (vs h) i→i≠w) :
    QS H (X.set nid (.cells (splice (rwV (fun k=>.slice (nr k) 0 M 1 false) N) k [.slice w 0 M 1 false]) true)) bx nid m0 N M (fun j=>if j=k then w else nr j) (fun j=>if j=k then f else need j) may hands O vs:=by
  have lt:=h.olt
  have hb:=h.b0
  have old:∀ j,j≠nid→(X.set nid (.cells (splice (rwV (fun k=>.slice (nr k) 0 M 1 false) N) k [.slice w 0 M 1 false]) true))[j]?=X[j]?:=fun j hj=>by rw [List.getElem?_set,if_neg (fun x=>hj x.symm)]
  refine⟨fun j hj=>by rw [old j (by omega)];exact h.pre j hj,by rw [old _ (by omega)];exact h.box,?_,fun j hj=>?_,
    by rw [old _ (by omega)];exact h.hd,by rw [old _ (by omega)];exact h.md,fun j hj=>by rw [old _ (by omega)];exact h.mrow j hj,by rw [old _ (by omega)];exact h.od,fun j hj=>(h.orow j hj).keep fun i hi=>old i (by have:=(h.b2 j hj i hi).1;omega),h.b0,fun j hj=>?_,fun a ha i hi=>⟨(h.b2 a ha i hi).1,fun j hj=>?_⟩,h.b3⟩
  · rw [List.getElem?_set,if_pos rfl,if_pos (by omega),rwV_put _ hk]
    congr 3
    funext j
    simp only [updV]
    split <;> rfl
  · by_cases e:j=k
    · subst e;simp only [if_true];rw [old _ hw1.2.1];exact hw
    · simp only [if_neg e];rw [old _ (h.b1 j hj).2.1];exact h.nrow j hj
  · by_cases e:j=k
    · simp only [e,if_true];exact hw1
    · simp only [if_neg e];exact h.b1 j hj
  · by_cases e:j=k
    · simp only [e,if_true];exact hw2 a ha i hi
    · simp only [if_neg e];exact (h.b2 a ha i hi).2 j hj
theorem QS.rdN (h:QS H X bx nid m0 N M nr need may hands O vs) {k:Nat} (hk:k<N):rd X nid k 1=some [.slice (nr k) 0 M 1 false]:=by
  rw [rd_cells h.nd (by rw [rwV_length];omega),rwV_at _ hk]
theorem QS.rdM (h:QS H X bx nid m0 N M nr need may hands O vs) {k:Nat} (hk:k<N):rd X (m0+2) k 1=some [.slice (m0+3+k) 0 M 1 true]:=by
  rw [rd_cells h.md (by rw [rwV_length];omega),rwV_at _ hk]
theorem QS.mN (h:QS H X bx nid m0 N M nr need may hands O vs):MAt X (.slice nid 0 N 1 true) N M fun s i=>.int .i64 (need s i):=by
  have hb:=h.b0
  have lt:=h.olt
  refine⟨nid,0,true,rfl,by omega,fun k hk=>⟨nr k,0,false,by rw [Nat.zero_add];exact h.rdN hk,h.nlt hk,fun i hi=>by rw [Nat.zero_add];exact rd_cell (h.nrow k hk) hi⟩⟩
theorem QS.mM (h:QS H X bx nid m0 N M nr need may hands O vs):MAt X (.slice (m0+2) 0 N 1 true) N M fun s i=>.bool (may s i):=by
  have lt:=h.olt
  refine⟨m0+2,0,true,rfl,by omega,fun k hk=>⟨m0+3+k,0,true,by rw [Nat.zero_add];exact h.rdM hk,by omega,fun i hi=>by rw [Nat.zero_add];exact rd_B (h.mrow k hk) hi⟩⟩
theorem QS.mH (h:QS H X bx nid m0 N M nr need may hands O vs):NAt X (.slice (m0+1) 0 M 1 true) M fun i=>.int .i64 (hands i):=by
  have lt:=h.olt
  exact⟨m0+1,0,true,rfl,by omega,fun k hk=>by rw [Nat.zero_add];exact rd_cell h.hd hk⟩
end
open Go.Hall
theorem QS.out {H X X2:Heap} {bx:List AV} {nid m0 N M:Nat} {nr:Nat→Nat} {need:Nat→Nat→Int} {may:Nat→Nat→Bool} {hands:Nat→Int} {O:Nat→List Int} {vs:Nat→AV} (h:QS H X bx nid m0 N M nr need may hands O vs) {a:Nat} (ha:a<M) {v2:AV} {x:Int}
    (hk:∀ i,i<X.length→¬ isId (vs a) i→X2[i]?=X[i]?) (hl:X.length≤X2.length) (hv:AAt X2 1 v2 (iv (O a)++[.int .i64 x]) ((O a).length+1)) (hi:∀ i,isId v2 i→X.length≤i) :
    QS H (X2.set (m0+3+N) (.cells (rwV (updV vs a v2) M) true)) bx nid m0 N M nr need may hands (fun j=>if j=a then O a++[x] else O j) (updV vs a v2):=by
  have lt:=h.olt
  have hb:=h.b0
  have na:∀ i,isId (vs a) i→m0+3+N<i∧∀ k,k<N→i≠nr k:=fun i hi=>h.b2 a ha i hi
  have old:∀ j,j≠m0+3+N→j<X.length→¬ isId (vs a) j→(X2.set (m0+3+N) (.cells (rwV (updV vs a v2) M) true))[j]?=X[j]?:=fun j h1 h2 h3=>by
    rw [List.getElem?_set,if_neg (fun x=>h1 x.symm)];exact hk j h2 h3
  have low:∀ j,j<m0+3+N→(X2.set (m0+3+N) (.cells (rwV (updV vs a v2) M) true))[j]?=X[j]?:=fun j hj=>old j (by omega) (by omega) fun hh=>by have:=(na j hh).1;omega
  refine⟨fun j hj=>by rw [low j (by omega)];exact h.pre j hj,by rw [low _ (by omega)];exact h.box,by rw [low _ (by omega)];exact h.nd,fun j hj=>?_,by rw [low _ (by omega)];exact h.hd,by rw [low _ (by omega)];exact h.md,fun j hj=>by rw [low _ (by omega)];exact h.mrow j hj,by rw [List.getElem?_set,if_pos rfl,if_pos (by omega)],fun j hj=>?_,h.b0,h.b1,fun j hj i hij=>?_,fun j k hj hk2 hne i h1 h2=>?_⟩
  · have b:=h.b1 j hj
    rw [old _ (by omega) (h.nlt hj) fun hh=>(na _ hh).2 j hj rfl];exact h.nrow j hj
  · by_cases e:j=a
    · subst e
      simp only [updV,if_true,iv_app,List.length_append]
      refine hv.keep fun i hii=>?_
      rw [List.getElem?_set,if_neg (by have:=hi i hii;omega)]
    · simp only [updV,if_neg e]
      refine (h.orow j hj).keep fun i hii=>?_
      exact old i (by have:=(h.b2 j hj i hii).1;omega) ((h.orow j hj).l.lt hii) (h.b3 j a hj ha e i hii)
  · by_cases e:j=a
    · subst e
      simp only [updV,if_true] at hij
      have:=hi i hij
      exact⟨by omega,fun k hk=>by have:=h.nlt hk;omega⟩
    · simp only [updV,if_neg e] at hij
      exact h.b2 j hj i hij
  · by_cases e1:j=a
    · by_cases e2:k=a
      · omega
      · simp only [updV,if_pos e1] at h1
        simp only [updV,if_neg e2] at h2
        have:=hi i h1
        have:=(h.orow k hk2).l.lt h2
        omega
    · by_cases e2:k=a
      · simp only [updV,if_neg e1] at h1
        simp only [updV,if_pos e2] at h2
        have:=hi i h2
        have:=(h.orow j hj).l.lt h1
        omega
      · simp only [updV,if_neg e1] at h1
        simp only [updV,if_neg e2] at h2
        exact h.b3 j k hj hk2 hne i h1 h2
theorem QS.mN_cut {H X G:Heap} {bx:List AV} {nid m0 N M:Nat} {nr:Nat→Nat} {need:Nat→Nat→Int} {may:Nat→Nat→Bool} {hands:Nat→Int} {O:Nat→List Int} {vs:Nat→AV} (h:QS H (X++G) bx nid m0 N M nr need may hands O vs) (h1:nid<X.length) (h2:∀ k,k<N→nr k<X.length):MAt X (.slice nid 0 N 1 true) N M fun s i=>.int .i64 (need s i) :=
  ⟨nid,0,true,rfl,h1,fun k hk=>⟨nr k,0,false,by rw [Nat.zero_add,← rd_old G h1];exact h.rdN hk,h2 k hk,fun i hi=>by rw [Nat.zero_add,← rd_old G (h2 k hk)];exact rd_cell (h.nrow k hk) hi⟩⟩
theorem QS.mM_cut {H X G:Heap} {bx:List AV} {nid m0 N M:Nat} {nr:Nat→Nat} {need:Nat→Nat→Int} {may:Nat→Nat→Bool} {hands:Nat→Int} {O:Nat→List Int} {vs:Nat→AV} (h:QS H (X++G) bx nid m0 N M nr need may hands O vs) (h1:m0+3+N≤X.length) (h0:0<N):MAt X (.slice (m0+2) 0 N 1 true) N M fun s i=>.bool (may s i) :=
  ⟨m0+2,0,true,rfl,by omega,fun k hk=>⟨m0+3+k,0,true,by rw [Nat.zero_add,← rd_old G (show m0+2<X.length by omega)];exact h.rdM hk,by omega,fun i hi=>by rw [Nat.zero_add,← rd_old G (show m0+3+k<X.length by omega)];exact rd_B (h.mrow k hk) hi⟩⟩
theorem QS.mH_cut {H X G:Heap} {bx:List AV} {nid m0 N M:Nat} {nr:Nat→Nat} {need:Nat→Nat→Int} {may:Nat→Nat→Bool} {hands:Nat→Int} {O:Nat→List Int} {vs:Nat→AV} (h:QS H (X++G) bx nid m0 N M nr need may hands O vs) (h1:m0+3+N≤X.length):NAt X (.slice (m0+1) 0 M 1 true) M fun i=>.int .i64 (hands i) :=
  ⟨m0+1,0,true,rfl,by omega,fun k hk=>by rw [Nat.zero_add,← rd_old G (show m0+1<X.length by omega)];exact rd_cell h.hd hk⟩
theorem avL_cg {f g:Nat→Int} {n:Nat} (h:∀ i,i<n→f i=g i):avL f n=avL g n:=by
  simp only [avL]
  apply List.map_congr_left
  intro i hi
  rw [h i (List.mem_range.1 hi)]
theorem avB_cg {f g:Nat→Bool} {n:Nat} (h:∀ i,i<n→f i=g i):avB f n=avB g n:=by
  simp only [avB]
  apply List.map_congr_left
  intro i hi
  rw [h i (List.mem_range.1 hi)]
def idOf:AV→Nat
  | .slice id _ _ _ _=>id
  | _=>0
theorem rNd_none {c:Cv} {n:Nat} (hc:c.ok n) {s d:Nat} (hs:s<c.bs.length) (hd:d<c.hs.length):rNd c (fun _ _=>none) s d=ndR c s d:=by
  have e:ct (fun a=>stT (fun _ _=>none) a s) c.hs.length=0:=(sm_congr fun i _=>by simp [stT]).trans (sm_zero _)
  have:=(ndF_bd hc hs (h:=d+1) (by omega)).1
  simp only [rNd,e,ndR];omega
set_option maxHeartbeats 4000000 in
theorem c_r2PlanV (H:Heap) (l:List Str) (c:Cv) (p:Plc) (hp:CvAt H c p) (ht:TrAt H l p) (hc:c.ok l.length) (hv:validL l) :
    ACalls Try.prog F.ref02_Plan [.agg (c.av p)] H (fun v h'=>(∃ (pl:AV) (G:Heap) (L:Nat→List Int),v=.tuple [pl,.int .i64 0]∧h'=H++G∧PlAt h' pl c.hs.length L∧BestP c L)∨(¬ feasR c (fun _ _=>none)∧v=.tuple [.nilslice,.int .i64 8]∧h'=H)):=by
  have hp1:=hp.t
  have hp2:=rd_lt hp.b
  have hp3:=rd_lt hp.h
  have h12:=hv.1
  have hlen:=hc.len
  have h8:=hc.hours
  have k0:=fun G=>c_r2Check (H++G) l c p (hp.app G) (ht.app G) (by omega) (by omega) (by omega)
  have kn:=fun G=>c_r2Needs (H++G) l c p (hp.app G) hc hv
  have kf:=fun G=>c_r2free (H++G) c p _ (hp.app G) hc (by omega)
  simp only [Cv.av] at k0 kn kf ⊢
  refine acalls_of ok_ref02_Plan rfl fun hcl=>?_
  unfold ac_ref02_Plan zo
  simp only [argsT,Nat.zero_add,Nat.reduceAdd]
  repeat (first|(with_reducible first|apply X1|apply X2|apply X8)|((with_reducible apply e_end);(simp;exact Rz))|((with_reducible apply O1);rfl;(simp (disch:=omega);exact Rz);exact Rz;(focus (first|(simp;done)|omega|(simp;omega)))))
  (with_reducible apply e_call);(simp;exact Rz);exact k0 _
  rintro _ _ ⟨rfl,e,rfl,he⟩
  obtain rfl:e=0:=by
    rcases he with h|h|h
    · exact h.2.2
    · exact absurd hv h.1
    · exact absurd hc h.2.1
  repeat (first|(with_reducible first|apply X1|apply X2|apply X5|apply X8)|((with_reducible apply e_end);(simp;exact Rz))|((with_reducible apply O1);rfl;(simp (disch:=omega);exact Rz);exact Rz;(focus (first|(simp;done)|omega|(simp;omega))))|((with_reducible apply W3);(simp (disch:=omega);exact Rz)))
  (with_reducible apply e_call);(simp;exact Rz);exact kn _
  rintro _ _ ⟨vs,G,rfl,rfl,hR⟩
  repeat (first|(with_reducible first|apply X1|apply X2|apply X8)|((with_reducible apply e_end);(simp;exact Rz))|((with_reducible apply O1);rfl;(simp (disch:=omega);exact Rz);exact Rz;(focus (first|(simp;done)|omega|(simp;omega)))))
  (with_reducible apply e_call);(simp;exact Rz);exact kf _
  rintro _ X ⟨rfl,hX⟩
  obtain⟨K,hK⟩:∃ K:Heap,K=H++.cells [AV.slice p.tid p.toff p.tn 9 p.tex,.slice p.bid p.boff c.bs.length 3 p.bex,.slice p.hid p.hoff c.hs.length 5 p.hex,.int .i64 c.w1,.int .i64 c.w2,.int .i64 c.y1,.int .i64 c.y2,.int .i64 c.rate,.int .i64 c.lim,.int .i64 c.base] true :: .cells [AV.slice p.tid p.toff p.tn 9 p.tex,.slice p.bid p.boff c.bs.length 3 p.bex,.slice p.hid p.hoff c.hs.length 5 p.hex,.int .i64 c.w1,.int .i64 c.w2,.int .i64 c.y1,.int .i64 c.y2,.int .i64 c.rate,.int .i64 c.lim,.int .i64 c.base] true :: .cells (rwV vs c.bs.length) true :: G:=⟨_,rfl⟩
  have hKl:K.length=H.length+(G.length+1+1+1):=by rw [hK];simp
  have hvs:∀ k,k<c.bs.length→vs k=.slice (idOf (vs k)) 0 c.hs.length 1 false∧K[idOf (vs k)]?=some (.cells (avL (ndR c k) c.hs.length) true)∧H.length+3≤idOf (vs k)∧idOf (vs k)<K.length:=fun k hk=>by
    have a:=hR.at_ k hk
    have lo:=hR.lo k hk
    rw [tnL_len,iv_tn] at a
    obtain⟨_,⟨_,h0⟩|⟨id,h0,e,hh⟩⟩:=a
    · omega
    · have e2:(H++[AObj.cells [AV.slice p.tid p.toff p.tn 9 p.tex,.slice p.bid p.boff c.bs.length 3 p.bex,.slice p.hid p.hoff c.hs.length 5 p.hex,.int .i64 c.w1,.int .i64 c.w2,.int .i64 c.y1,.int .i64 c.y2,.int .i64 c.rate,.int .i64 c.lim,.int .i64 c.base] true])++.cells [AV.slice p.tid p.toff p.tn 9 p.tex,.slice p.bid p.boff c.bs.length 3 p.bex,.slice p.hid p.hoff c.hs.length 5 p.hex,.int .i64 c.w1,.int .i64 c.w2,.int .i64 c.y1,.int .i64 c.y2,.int .i64 c.rate,.int .i64 c.lim,.int .i64 c.base] true :: .cells (rwV vs c.bs.length) true :: G=K:=by rw [hK];simp
      rw [e2] at hh
      rw [e] at lo ⊢
      have:=lo id rfl
      simp only [List.length_append,List.length_cons,List.length_nil] at this
      exact⟨rfl,hh,by simp only [idOf];omega,(List.getElem?_eq_some_iff.1 hh).1⟩
  have hKn:K[H.length+2]?=some (.cells (rwV vs c.bs.length) true):=by rw [hK];simp
  have hKb:K[H.length]?=some (.cells [AV.slice p.tid p.toff p.tn 9 p.tex,.slice p.bid p.boff c.bs.length 3 p.bex,.slice p.hid p.hoff c.hs.length 5 p.hex,.int .i64 c.w1,.int .i64 c.w2,.int .i64 c.y1,.int .i64 c.y2,.int .i64 c.rate,.int .i64 c.lim,.int .i64 c.base] true):=by rw [hK];simp
  have hKh:∀ j,j<H.length→K[j]?=H[j]?:=fun j hj=>by rw [hK,List.getElem?_append_left hj]
  rw [← hK] at hX
  have hXl:=hX.len
  have hXK:=hX.pre
  have hrv:rwV vs c.bs.length=rwV (fun k=>.slice (idOf (vs k)) 0 c.hs.length 1 false) c.bs.length:=by
    simp only [rwV]
    apply List.map_congr_left
    intro k hk
    exact (hvs k (List.mem_range.1 hk)).1
  have hQ:QS H (X++[AObj.cells (rwV (fun _=>.nilslice) c.hs.length) true]) [AV.slice p.tid p.toff p.tn 9 p.tex,.slice p.bid p.boff c.bs.length 3 p.bex,.slice p.hid p.hoff c.hs.length 5 p.hex,.int .i64 c.w1,.int .i64 c.w2,.int .i64 c.y1,.int .i64 c.y2,.int .i64 c.rate,.int .i64 c.lim,.int .i64 c.base] (H.length+2) K.length c.bs.length c.hs.length (fun k=>idOf (vs k)) (rNd c fun _ _=>none) (fun s h=>rMy c (fun _ _=>none) h s) (idF c fun _ _=>none) (fun _=>[]) (fun _=>.nilslice):=by
    have old:∀ j,j<X.length→(X++[AObj.cells (rwV (fun _=>.nilslice) c.hs.length) true])[j]?=X[j]?:=fun j hj=>List.getElem?_append_left hj
    have oK:∀ j,j<K.length→(X++[AObj.cells (rwV (fun _=>.nilslice) c.hs.length) true])[j]?=K[j]?:=fun j hj=>by rw [old j (by omega)];exact hXK j hj
    refine⟨fun j hj=>by rw [oK j (by omega)];exact hKh j hj,by rw [oK _ (by omega)];exact hKb,by rw [oK _ (by omega),hKn,hrv],fun k hk=>?_,?_,?_,fun k hk=>?_,?_,fun h hh=>AAt.nil _ _,by omega,fun k hk=>?_,fun h hh i hi=>hi.elim,fun h j hh hj hne i hi=>hi.elim⟩
    · have b:=hvs k hk
      rw [oK _ b.2.2.2,b.2.1]
      congr 2
      exact avL_cg fun i hi=>(rNd_none hc hk hi).symm
    · rw [old _ (by omega),hX.hd]
      congr 2
      exact avL_cg fun i hi=>by rw [idF_none,if_pos hi]
    · rw [old _ (by omega),hX.md]
      congr 2
      simp only [rwV]
      apply List.map_congr_left
      intro k hk
      rw [if_pos (List.mem_range.1 hk)]
    · rw [old _ (by omega),hX.row k hk]
      congr 2
      exact avB_cg fun i hi=>by simp [rMy,hi]
    · rw [← hXl,List.getElem?_append_right (Nat.le_refl _)];simp
    · have b:=hvs k hk
      exact⟨by omega,by omega,.inl b.2.2.2⟩
  have nlt:∀ k,k<c.bs.length→idOf (vs k)<X.length:=fun k hk=>by have:=(hvs k hk).2.2.2;omega
  have nb:∀ S,∀ s i,s<c.bs.length→i<c.hs.length→-1000000≤rNd c S s i∧rNd c S s i≤1000000:=fun S s i hs hi=>by
    have a1:=ndF_bd hc hs (h:=i+1) (by omega)
    have a2:=ct_nonneg (fun a=>stT S a s) c.hs.length
    simp only [rNd,ndR];omega
  have hbd:∀ S,(∀ a,a<8→0≤idF c S a)→∀ h,h<c.hs.length→-1000000≤idF c S h∧idF c S h≤1000000:=fun S hS h hh=>by
    have a1:=hS h (by omega)
    have a2:=ct_nonneg (stT S h) c.bs.length
    have a3:=(hc.hok h hh).2.2
    rw [← Cv.h_eq hh] at a3
    simp only [idF,if_pos hh,handsF] at a1 ⊢
    split <;> omega
  have hb12:c.bs.length≤12:=by omega
  obtain⟨b,hbf⟩:=bof (feasR c fun _ _=>none)
  have hcf:=can_feas hc hb12 (S:=fun _ _=>none) (B:=0) (fun a e ha=>by simp at ha) (fun s hs d hd=>by omega) (fun a _=>id0 hc a)
  have kc0:=c_r2can X _ _ _ c.bs.length c.hs.length c.hs.length (rNd c fun _ _=>none) (rMy c fun _ _=>none) (idF c fun _ _=>none) (by omega) (Nat.le_refl _) h8.2 (hQ.mN_cut (by omega) nlt) (nb _) (hQ.mM_cut (by omega) (by omega)) (hQ.mH_cut (by omega)) (hbd _ fun a _=>id0 hc a) (b:=b) (by rw [hcf];exact hbf)
  rw [← hK]
  simp only [Nat.add_assoc,Nat.reduceAdd]
  have ePre:∃ G',X=H++G':=ext_of (by omega) fun j hj=>by rw [hXK j (by omega)];exact hKh j hj
  repeat (first|(with_reducible first|apply X1|apply X2|apply X8)|((with_reducible apply e_end);(simp;exact Rz))|((with_reducible apply O1);rfl;(simp (disch:=omega);exact Rz);exact Rz;(focus (first|(simp;done)|omega|(simp;omega)))))
  (with_reducible apply e_call);(simp;exact Rz);exact kc0
  rintro _ hqh ⟨rfl,hqe⟩
  rw [hqe];clear hqe hqh
  obtain⟨G',hG'⟩:=ePre
  cases b with
  | false =>
    have hnf:¬ feasR c fun _ _=>none:=fun hf=>absurd (hbf.2 hf) (by simp)
    repeat (first|(with_reducible first|apply X1|apply X2|apply X3|apply X8|apply X9)|((with_reducible apply e_end);(simp;exact Rz))|((with_reducible apply O1);rfl;(simp (disch:=omega);exact Rz);exact Rz;(focus (first|(simp;done)|omega|(simp;omega))))|((with_reducible apply Z9);(simp (disch:=omega);exact Rz)))
    rw [hG']
    exact q_drop (.inr rfl) (by simp;exact Rz) (by simp [AV.sc,scL]) (.inr ⟨hnf,rfl,rfl⟩)
  | true =>
    have hP0:=PS.start hc (hbf.1 rfl)
    have hbl:∀ {Y:Heap} {f g i O w nr},QS H Y [AV.slice p.tid p.toff p.tn 9 p.tex,.slice p.bid p.boff c.bs.length 3 p.bex,.slice p.hid p.hoff c.hs.length 5 p.hex,.int .i64 c.w1,.int .i64 c.w2,.int .i64 c.y1,.int .i64 c.y2,.int .i64 c.rate,.int .i64 c.lim,.int .i64 c.base] (H.length+2) K.length c.bs.length c.hs.length nr f g i O w→rd Y H.length 0 10=some [AV.slice p.tid p.toff p.tn 9 p.tex,.slice p.bid p.boff c.bs.length 3 p.bex,.slice p.hid p.hoff c.hs.length 5 p.hex,.int .i64 c.w1,.int .i64 c.w2,.int .i64 c.y1,.int .i64 c.y2,.int .i64 c.rate,.int .i64 c.lim,.int .i64 c.base]:=fun h=>by rw [rd_cells h.box (by simp)];rfl
    have hb2X:rd X H.length 2 1=some [.slice p.hid p.hoff c.hs.length 5 p.hex]:=by
      have:=rd_sub' (hbl hQ) 2 1 (by omega)
      rw [← rd_old [AObj.cells (rwV (fun _=>.nilslice) c.hs.length) true] (show H.length<X.length by omega)];exact this
    repeat (first|(with_reducible first|apply X1|apply X2|apply X5|apply X6|apply X8)|((with_reducible apply e_end);(simp;exact Rz))|((with_reducible apply O1);rfl;(simp (disch:=omega) [hb2X];exact Rz);exact Rz;(focus (first|(simp;done)|omega|(simp;omega))))|((with_reducible apply W3);(simp (disch:=omega) [hb2X];exact Rz)))
    rw [rwV_nil]
    rw [hXl]
    clear hX kc0 hcf hR hvs hrv hKn hKb hKh hXK
    have e0:(fun _:Nat=>([]:List Int))=fun a=>if a<0 then flL (stT (fun _ _=>none) a) c.bs.length else []:=by funext a;simp
    rw [e0] at hQ
    generalize X++[AObj.cells (rwV (fun _=>.nilslice) c.hs.length) true]=Y0 at hQ ⊢
    refine e_loop (ι:={ x:Nat × Heap × (Nat→Nat→Option Bool) × (Nat→Nat) × (Nat→AV) // x.1≤c.hs.length∧PS c x.2.2.1 x.1 0∧QS H x.2.1 [AV.slice p.tid p.toff p.tn 9 p.tex,.slice p.bid p.boff c.bs.length 3 p.bex,.slice p.hid p.hoff c.hs.length 5 p.hex,.int .i64 c.w1,.int .i64 c.w2,.int .i64 c.y1,.int .i64 c.y2,.int .i64 c.rate,.int .i64 c.lim,.int .i64 c.base] (H.length+2) K.length c.bs.length c.hs.length x.2.2.2.1 (rNd c x.2.2.1) (fun s h=>rMy c x.2.2.1 h s) (idF c x.2.2.1) (fun a=>if a<x.1 then flL (stT x.2.2.1 a) c.bs.length else []) x.2.2.2.2 })
      (fun x=>[(1,.ptr H.length 0),(5,.slice (H.length+2) 0 c.bs.length 1 true),(6,.slice (K.length+2) 0 c.bs.length 1 true),(7,.slice (K.length+1) 0 c.hs.length 1 true),(8,.slice (K.length+3+c.bs.length) 0 c.hs.length 1 true),(9,.int .i64 x.1.1)])
      (fun x=>x.1.2.1) (fun x=>c.hs.length-x.1.1) ⟨(0,Y0,fun _ _=>none,_,_),Nat.zero_le _,hP0,hQ⟩ ?_ ?_
    · exact .inl rfl
    · clear hQ nlt hb2X hG' hP0 hbf e0
      rintro⟨⟨h,Y,S,nr,ws⟩,hh,hP,hQ⟩
      dsimp only at hh hP hQ ⊢
      have b2:=rd_sub' (hbl hQ) 2 1 (by omega)
      simp only [List.drop_succ_cons,List.drop_zero,List.take_succ_cons,List.take_zero,Nat.zero_add] at b2
      by_cases hlt:h<c.hs.length
      rotate_left
      · have hlt2:¬ (h:Int)<c.hs.length:=by omega
        obtain rfl:h=c.hs.length:=by omega
        have lt:=hQ.olt
        obtain⟨G2,hG2⟩:=ext_of (A:=H) (h':=Y) (by omega) hQ.pre
        have hpl:PlAt Y (.slice (K.length+3+c.bs.length) 0 c.hs.length 1 true) c.hs.length (fun a=>flL (stT S a) c.bs.length):=by
          refine⟨_,0,true,ws,rfl,?_,fun k hk=>?_⟩
          · rw [rd_cells hQ.od (by rw [rwV_length];omega),Nat.mul_one,List.drop_zero,List.take_of_length_le (by rw [rwV_length];omega)];rfl
          · have:=(hQ.orow k hk).l.r
            simp only [hk,if_true] at this
            exact this
        repeat (first|(with_reducible first|apply X1|apply X2|apply X3|apply X4|apply X8|apply Y1|apply Y4|apply Y6)|((with_reducible apply e_end);(simp;exact Rz))|((with_reducible apply O1);rfl;(simp (disch:=omega) [hlt,hlt2,b2];exact Rz);exact Rz;(focus (first|(simp;done)|omega|(simp;omega))))|((with_reducible apply W3);(simp (disch:=omega) [hlt,hlt2,b2];exact Rz)))
        exact q_stay (.inr rfl) (by simp;exact Rz) (.inl ⟨_,G2,_,rfl,hG2,hpl,hP.best hc hb12⟩)
      have hlt2:(h:Int)<c.hs.length:=by omega
      repeat (first|(with_reducible first|apply X1|apply X2|apply X5|apply X6|apply X8)|((with_reducible apply e_end);(simp;exact Rz))|((with_reducible apply O1);rfl;(simp (disch:=omega) [hlt,hlt2,b2];exact Rz);exact Rz;(focus (first|(simp;done)|omega|(simp;omega))))|((with_reducible apply Z9);(simp (disch:=omega) [hlt,hlt2,b2];exact Rz)))
      refine e_loop (ι:={ x:Nat × Heap × (Nat→Nat→Option Bool) × (Nat→Nat) × (Nat→AV) // x.1≤c.bs.length∧PS c x.2.2.1 h x.1∧QS H x.2.1 [AV.slice p.tid p.toff p.tn 9 p.tex,.slice p.bid p.boff c.bs.length 3 p.bex,.slice p.hid p.hoff c.hs.length 5 p.hex,.int .i64 c.w1,.int .i64 c.w2,.int .i64 c.y1,.int .i64 c.y2,.int .i64 c.rate,.int .i64 c.lim,.int .i64 c.base] (H.length+2) K.length c.bs.length c.hs.length x.2.2.2.1 (rNd c x.2.2.1) (fun s h=>rMy c x.2.2.1 h s) (idF c x.2.2.1) (fun a=>if a<h then flL (stT x.2.2.1 a) c.bs.length else if a=h then flL (stT x.2.2.1 h) x.1 else []) x.2.2.2.2 })
        (fun x=>[(1,.ptr H.length 0),(5,.slice (H.length+2) 0 c.bs.length 1 true),(6,.slice (K.length+2) 0 c.bs.length 1 true),(7,.slice (K.length+1) 0 c.hs.length 1 true),(8,.slice (K.length+3+c.bs.length) 0 c.hs.length 1 true),(9,.int .i64 h),(10,.int .i64 x.1.1)])
        (fun x=>x.1.2.1) (fun x=>c.bs.length-x.1.1) ⟨(0,Y,S,nr,ws),Nat.zero_le _,hP,?_⟩ ?_ ?_
      · have e:(fun a=>if a<h then flL (stT S a) c.bs.length else [])=fun a=>if a<h then flL (stT S a) c.bs.length else if a=h then flL (stT S h) 0 else []:=by funext a;simp [flL]
        rw [e] at hQ;exact hQ
      · exact .inl rfl
      · clear hP hQ b2 Y S nr ws
        rintro⟨⟨i,Y,S,nr,ws⟩,hi,hP,hQ⟩
        dsimp only at hi hP hQ ⊢
        have b1:=rd_sub' (hbl hQ) 1 1 (by omega)
        have b2:=rd_sub' (hbl hQ) 2 1 (by omega)
        simp only [List.drop_succ_cons,List.drop_zero,List.take_succ_cons,List.take_zero,Nat.zero_add] at b1 b2
        by_cases hil:i<c.bs.length
        rotate_left
        · have hil2:¬ (i:Int)<c.bs.length:=by omega
          obtain rfl:i=c.bs.length:=by omega
          repeat (first|(with_reducible first|apply X1|apply X2|apply X4|apply X8|apply Y1|apply Y2|apply Y4|apply Y6)|((with_reducible apply e_end);(simp;exact Rz))|((with_reducible apply O1);rfl;(simp (disch:=omega) [hil,hil2,b1];exact Rz);exact Rz;(focus (first|(simp;done)|omega|(simp;omega))))|((with_reducible apply W3);(simp (disch:=omega) [hil,hil2,b1];exact Rz)))
          refine q_again ⟨(h+1,Y,S,nr,ws),hlt,hP.row,?_⟩ (by dsimp only;omega) (.inl (by simp))
          dsimp only
          have e:(fun a=>if a<h+1 then flL (stT S a) c.bs.length else [])=fun a=>if a<h then flL (stT S a) c.bs.length else if a=h then flL (stT S h) c.bs.length else []:=by
            funext a
            by_cases h1:a<h
            · simp [h1,show a<h+1 by omega]
            · by_cases h2:a=h
              · simp [h2]
              · simp [h1,h2,show ¬ a<h+1 by omega]
          rw [e];exact hQ
        have hil2:(i:Int)<c.bs.length:=by omega
        have hSn:S h i=none:=hP.none (by omega)
        have g1:=hQ.rdM hil
        have g2:=rd_B (hQ.mrow i hil) hlt
        have g3:=rd_cell hQ.hd hlt
        have g4:=hQ.rdN hil
        have g5:=rd_cell (hQ.nrow i hil) (show c.hs.length-1<c.hs.length by omega)
        have hmy:rMy c S h i=(c.h h).cold:=by simp [rMy,hSn]
        rw [hmy] at g2
        have hl1:c.hs.length-1<c.hs.length:=by omega
        have hla:((c.hs.length:Int)-1).toNat=c.hs.length-1:=by omega
        have tl:ct (fun a=>stT S a i) c.hs.length=ct (fun a=>stT S a i) (c.hs.length-1):=by
          obtain⟨m,hm⟩:∃ m,c.hs.length=m+1:=⟨c.hs.length-1,by omega⟩
          have e:stT S m i=false:=by simp [stT,hP.none (show ¬ ((m<h∨(m=h∧i<i))∧i<c.bs.length) by omega)]
          rw [hm]
          show ct (fun a=>stT S a i) m+(if stT S m i=true then 1 else 0)=ct (fun a=>stT S a i) m
          rw [e];simp
        have hrn:0<rNd c S i (c.hs.length-1)↔ct (fun a=>stT S a i) (c.hs.length-1)<ndR c i (c.hs.length-1):=by
          simp only [rNd,tl];omega
        have hnb:=nb S i (c.hs.length-1) hil hl1
        have hib:=hbd S hP.hnd h hlt
        repeat (first|(with_reducible first|apply X1|apply X2|apply X5|apply X6|apply X8|apply Y9)|((with_reducible apply e_end);(simp;exact Rz))|((first|((with_reducible apply O1);rfl)|((with_reducible apply P1);rfl)|((with_reducible apply P2);rfl));(simp (disch:=omega) [hil,hil2,hlt,hlt2,b1,g1,g2];exact Rz);exact Rz;(focus (first|(simp;done)|omega|(simp;omega))))|((with_reducible apply Z9);(simp (disch:=omega) [hil,hil2,hlt,hlt2,b1,g1,g2];exact Rz)))
        refine d_cut (fun t' h'=>∃ A:Bool,t'=[(1,.ptr H.length 0),(5,.slice (H.length+2) 0 c.bs.length 1 true),(6,.slice (K.length+2) 0 c.bs.length 1 true),(7,.slice (K.length+1) 0 c.hs.length 1 true),(8,.slice (K.length+3+c.bs.length) 0 c.hs.length 1 true),(9,.int .i64 h),(10,.int .i64 i),(11,.bool A)]∧h'=Y∧(A=true↔0<idF c S h∧ct (fun a=>stT S a i) (c.hs.length-1)<ndR c i (c.hs.length-1))) ?_ ?_
        · cases hcold:(c.h h).cold with
          | false =>
            have h0:idF c S h≤0:=by
              have:=ct_nonneg (stT S h) c.bs.length
              simp only [idF,if_pos hlt,handsF,hcold,Bool.false_eq_true,if_false];omega
            repeat (first|((with_reducible apply d_end);(simp;exact Rz))|((with_reducible apply P1);rfl;(simp (disch:=omega);exact Rz);exact Rz;(focus (first|(simp;done)|omega|(simp;omega))))|((with_reducible apply Z5);(simp (disch:=omega);exact Rz)))
            exact q_keep ⟨false,rfl,rfl,by simp;omega⟩
          | true =>
            by_cases hi0:0<idF c S h
            · by_cases hr0:0<rNd c S i (c.hs.length-1)
              · repeat (first|((with_reducible apply d_end);(simp;exact Rz))|((first|((with_reducible apply P1);rfl)|((with_reducible apply P2);rfl));(simp (disch:=omega) [hlt,hlt2,g3,hi0,hil,hil2,g4,b2,hl1,hla,g5,hr0];exact Rz);exact Rz;(focus (first|(simp;done)|omega|(simp;omega))))|((with_reducible apply Z8);(simp (disch:=omega) [hlt,hlt2,g3,hi0,hil,hil2,g4,b2,hl1,hla,g5,hr0];exact Rz)))
                exact q_keep ⟨true,rfl,rfl,by simp [hi0,hrn.1 hr0]⟩
              · repeat (first|((with_reducible apply d_end);(simp;exact Rz))|((first|((with_reducible apply P1);rfl)|((with_reducible apply P2);rfl));(simp (disch:=omega) [hlt,hlt2,g3,hi0,hil,hil2,g4,b2,hl1,hla,g5,hr0];exact Rz);exact Rz;(focus (first|(simp;done)|omega|(simp;omega))))|((with_reducible apply Z8);(simp (disch:=omega) [hlt,hlt2,g3,hi0,hil,hil2,g4,b2,hl1,hla,g5,hr0];exact Rz)))
                exact q_keep ⟨false,rfl,rfl,by simp;intro _;exact Int.not_lt.1 fun x=>hr0 (hrn.2 x)⟩
            · repeat (first|((with_reducible apply d_end);(simp;exact Rz))|((first|((with_reducible apply P1);rfl)|((with_reducible apply P2);rfl));(simp (disch:=omega) [hlt,hlt2,g3,hi0];exact Rz);exact Rz;(focus (first|(simp;done)|omega|(simp;omega))))|((with_reducible apply Z8);(simp (disch:=omega) [hlt,hlt2,g3,hi0];exact Rz))|((with_reducible apply Z5);(simp (disch:=omega) [hlt,hlt2,g3,hi0];exact Rz)))
              exact q_keep ⟨false,rfl,rfl,by simp [hi0]⟩
        rintro _ hqh ⟨A,rfl,hqe,hA⟩
        rw [hqe];clear hqe hqh
        have hwm:=wr_cells (v:=.bool false) (hQ.mrow i hil) (show h+1≤(avB (fun k=>rMy c S k i) c.hs.length).length by rw [avB_len];omega)
        rw [avB_put (g:=fun k=>rMy c (setS S h i false) k i) hlt (fun j=>by rw [rMy_put];simp)] at hwm
        have hQ1:=hQ.setM hil (may':=fun s k=>rMy c (setS S h i false) k s) (fun j hj=>by
          funext k
          rw [rMy_put,if_neg (fun x=>hj x.2)])
        repeat (first|(with_reducible first|apply X1|apply X2|apply X8)|((with_reducible apply e_end);(simp;exact Rz))|((first|((with_reducible apply O1);rfl)|((with_reducible apply O2);rfl));(simp (disch:=omega) [hil,hil2,hlt,hlt2,g1,-splice,hwm];exact Rz);exact Rz;(focus (first|(simp;done)|omega|(simp;omega)))))
        have hYAl:(Y.set (K.length+3+i) (AObj.cells (avB (fun k=>rMy c (setS S h i false) k i) c.hs.length) true)).length=Y.length:=by simp
        clear hwm g1 g2 g3 g4 g5 b1 b2
        generalize Y.set (K.length+3+i) (AObj.cells (avB (fun k=>rMy c (setS S h i false) k i) c.hs.length) true)=YA at hQ1 hYAl ⊢
        cases A with
        | false =>
          have hno:¬ (0<idF c S h∧ct (fun a=>stT S a i) (c.hs.length-1)<ndR c i (c.hs.length-1)):=fun x=>Bool.false_ne_true (hA.2 x)
          have hr:false=true↔0<idF c S h∧ct (fun a=>stT S a i) (c.hs.length-1)<ndR c i (c.hs.length-1)∧feasR c (setS S h i true):=⟨fun x=>(by cases x),fun x=>absurd ⟨x.1,x.2.1⟩ hno⟩
          repeat (first|(with_reducible first|apply X2|apply X4|apply X8|apply Y1|apply Y4)|((with_reducible apply e_end);(simp;exact Rz))|((with_reducible apply O1);rfl;(simp (disch:=omega);exact Rz);exact Rz;(focus (first|(simp;done)|omega|(simp;omega))))|((with_reducible apply Z9);(simp (disch:=omega);exact Rz)))
          refine q_again ⟨(i+1,YA,setS S h i false,nr,ws),hil,hP.settle hc hb12 hlt hil hr,?_⟩ (by dsimp only;omega) (.inl (by simp))
          dsimp only
          have e1:idF c (setS S h i false)=idF c S:=by funext a;rw [idF_put hlt hil hSn];simp
          have e2:flL (stT S h) (i+1)=flL (stT S h) i:=by rw [flL_succ];simp [stT,hSn]
          rw [rNd_off hSn,e1,stT_off hSn,e2]
          exact hQ1
        | true =>
          have hAt:=hA.1 rfl
          have g4:=hQ1.rdN hil
          have klt:=hQ1.nlt hil
          have lb:=hQ1.olt
          have hb0:=hQ1.b0
          have kl:=c_r2less YA (nr i) 0 c.hs.length false (rNd c S i) h8.2 klt (fun d hd=>by rw [Nat.zero_add];exact rd_cell (hQ1.nrow i hil) hd) (fun d hd=>nb S i d hil hd)
          have hne2:¬ c.hs=[]:=by intro h;rw [h] at h8;simp at h8
          have elv:∀ Z,lsV Z 1 c.hs.length=.slice Z.length 0 c.hs.length 1 false:=fun Z=>by simp [lsV,hne2]
          have elo:∀ cs,lsO c.hs.length cs=[.cells cs true]:=fun cs=>by simp [lsO,hne2]
          simp only [elv,elo,iv_tn] at kl
          have hQ2:=hQ1.app [.cells (avL (fun d=>max 0 (rNd c S i d-1)) c.hs.length) true]
          have hQ3:=hQ2.setN hil (w:=YA.length) (f:=fun d=>max 0 (rNd c S i d-1)) (by simp) ⟨by omega,by omega,.inr (by omega)⟩ (fun a ha q hq=>by
            have:=(hQ1.orow a ha).l.lt hq;omega)
          have hwn:=wr_cells (v:=.slice YA.length 0 c.hs.length 1 false) hQ2.nd (show i+1≤(rwV (fun k=>AV.slice (nr k) 0 c.hs.length 1 false) c.bs.length).length by rw [rwV_length];omega)
          repeat (first|(with_reducible first|apply X1|apply X2|apply X5|apply X8)|((with_reducible apply e_end);(simp;exact Rz))|((with_reducible apply O1);rfl;(simp (disch:=omega) [hil,hil2,g4];exact Rz);exact Rz;(focus (first|(simp;done)|omega|(simp;omega))))|((with_reducible apply W3);(simp (disch:=omega) [hil,hil2,g4];exact Rz)))
          (with_reducible apply e_call);(simp;exact Rz);exact kl
          rintro _ hqh ⟨rfl,hqe⟩
          rw [hqe];clear hqe hqh
          repeat (first|(with_reducible first|apply X1|apply X2|apply X8)|((with_reducible apply e_end);(simp;exact Rz))|((first|((with_reducible apply O1);rfl)|((with_reducible apply O2);rfl));(simp (disch:=omega) [hil,hil2,g4,-splice,hwn];exact Rz);exact Rz;(focus (first|(simp;done)|omega|(simp;omega)))))
          have hold:(YA.set (H.length+2) (AObj.cells (splice (rwV (fun k=>AV.slice (nr k) 0 c.hs.length 1 false) c.bs.length) i [.slice YA.length 0 c.hs.length 1 false]) true)++[AObj.cells (avL (fun d=>max 0 (rNd c S i d-1)) c.hs.length) true])[nr i]?=some (.cells (avL (rNd c S i) c.hs.length) true):=by
            rw [List.getElem?_append_left (by simp;exact klt),List.getElem?_set,if_neg (by have:=hQ1.b1 i hil;omega)]
            exact hQ1.nrow i hil
          rw [set_old (by omega)] at hQ3
          have b1i:=hQ1.b1 i hil
          have b2i:∀ a,a<c.hs.length→∀ q,isId (ws a) q→q≠nr i:=fun a ha q hq=>(hQ1.b2 a ha q hq).2 i hil
          clear kl hwn g4 hQ2
          generalize YA.set (H.length+2) (AObj.cells (splice (rwV (fun k=>AV.slice (nr k) 0 c.hs.length 1 false) c.bs.length) i [.slice YA.length 0 c.hs.length 1 false]) true)++[AObj.cells (avL (fun d=>max 0 (rNd c S i d-1)) c.hs.length) true]=M1 at hold hQ3 ⊢
          have en:(fun j=>if j=i then fun d=>max 0 (rNd c S i d-1) else rNd c S j)=rNd c (setS S h i true):=by
            funext j d
            rw [rNd_put hlt hSn]
            by_cases e:j=i
            · subst e;simp
            · simp [e]
          have em:(fun s k=>rMy c (setS S h i false) k s)=fun s k=>rMy c (setS S h i true) k s:=by
            funext s k
            rw [rMy_put,rMy_put]
          rw [en,em] at hQ3
          have hwh:=wr_cells (v:=.int .i64 (idF c S h-1)) hQ3.hd (show h+1≤(avL (idF c S) c.hs.length).length by rw [avL_length];omega)
          rw [avL_put (g:=idF c (setS S h i true)) hlt (fun j=>by
            rw [idF_put hlt hil hSn]
            by_cases e:j=h
            · subst e;simp
            · simp [e])] at hwh
          have g3:=rd_cell hQ3.hd hlt
          have hQ4:=hQ3.setH (idF c (setS S h i true))
          have hold2:(M1.set (K.length+1) (AObj.cells (avL (idF c (setS S h i true)) c.hs.length) true))[nr i]?=some (.cells (avL (rNd c S i) c.hs.length) true):=by
            rw [List.getElem?_set,if_neg (by omega)];exact hold
          repeat (first|(with_reducible first|apply X1|apply X2|apply X8)|((with_reducible apply e_end);(simp;exact Rz))|((first|((with_reducible apply O1);rfl)|((with_reducible apply O2);rfl));(simp (disch:=omega) [hlt,hlt2,g3,-splice,hwh];exact Rz);exact Rz;(focus (first|(simp;done)|omega|(simp;omega)))))
          clear hwh g3 hold hQ3
          generalize M1.set (K.length+1) (AObj.cells (avL (idF c (setS S h i true)) c.hs.length) true)=M2 at hold2 hQ4 ⊢
          have hcs:=can_settle hc hb12 hP hlt hil hAt.1
          obtain⟨r,hrb⟩:=bof (feasR c (setS S h i true))
          have hnn:∀ a,a<8→0≤idF c (setS S h i true) a:=fun a ha=>by
            rw [idF_put hlt hil hSn]
            by_cases e:a=h
            · subst e;simp;omega
            · have:=hP.hnd a ha
              simp [e];exact this
          have kc:=c_r2can M2 _ _ _ c.bs.length c.hs.length c.hs.length (rNd c (setS S h i true)) (rMy c (setS S h i true)) (idF c (setS S h i true)) (by omega) (Nat.le_refl _) h8.2 hQ4.mN (nb _) hQ4.mM hQ4.mH (hbd _ hnn) (b:=r) (by rw [hcs];exact hrb)
          have b2:=rd_sub' (hbl hQ4) 2 1 (by omega)
          simp only [List.drop_succ_cons,List.drop_zero,List.take_succ_cons,List.take_zero,Nat.zero_add] at b2
          skip
          (with_reducible apply e_call);(simp;exact Rz);exact kc
          rintro _ hqh ⟨rfl,hqe⟩
          rw [hqe];clear hqe hqh
          cases r with
          | true =>
            have hr:true=true↔0<idF c S h∧ct (fun a=>stT S a i) (c.hs.length-1)<ndR c i (c.hs.length-1)∧feasR c (setS S h i true):=⟨fun _=>⟨hAt.1,hAt.2,hrb.1 rfl⟩,fun _=>rfl⟩
            have rO:rd M2 (K.length+3+c.bs.length) h 1=some [ws h]:=by rw [rd_cells hQ4.od (by rw [rwV_length];omega),rwV_at _ hlt]
            repeat (first|(with_reducible first|apply X1|apply X2|apply X8)|((with_reducible apply e_end);(simp;exact Rz))|((with_reducible apply O1);rfl;(simp (disch:=omega) [hlt,hlt2,rO];exact Rz);exact Rz;(focus (first|(simp;done)|omega|(simp;omega))))|((with_reducible apply Z9);(simp (disch:=omega) [hlt,hlt2,rO];exact Rz)))
            have hQ6:=hQ4.app [.cells [.int .i64 (i:Int)] true]
            have hRh:=hQ6.orow h hlt
            simp only [Nat.lt_irrefl,if_false,if_true] at hRh
            have hlm:=flL_le (stT S h) i
            refine e_appA (A:=[]) (G:=M2++[.cells [.int .i64 (i:Int)] true])
              (cs:=iv (flL (stT S h) i)) (n:=(flL (stT S h) i).length) (m:=1) (new:=[.int .i64 (i:Int)]) (by simp) (by simp;exact Rz) (by simp;exact Rz) hRh (fun k hk=>by simp) (by simp) (by simp) (by omega) (by omega) ?_
            intro G2 v2 e3 e4 e5 e6 e7
            simp only [List.nil_append] at e3 e4 e5 e6 e7 ⊢
            have hod:G2[K.length+3+c.bs.length]?=some (.cells (rwV ws c.hs.length) true):=by
              rw [e5 _ (hQ6.olt) fun x=>by have:=(hQ6.b2 h hlt _ x).1;omega]
              exact hQ6.od
            have hwo:=wr_cells (v:=v2) hod (show h+1≤(rwV ws c.hs.length).length by rw [rwV_length];omega)
            rw [rwV_put ws hlt v2] at hwo
            have hQ7:=hQ6.out hlt (x:=(i:Int)) (v2:=v2) e5 (by omega) (by simpa only [Nat.lt_irrefl,if_false,if_true] using e3) e6
            have e3':=e3
            obtain⟨_,⟨_,h0⟩|⟨id2,_,rfl,hh2⟩⟩:=e3'
            · omega
            repeat (first|(with_reducible first|apply X2|apply X4|apply X8|apply Y1|apply Y4)|((with_reducible apply e_end);(simp;exact Rz))|((first|((with_reducible apply O1);rfl)|((with_reducible apply O2);rfl));(simp (disch:=omega) [hlt,hlt2,-splice,hwo];exact Rz);exact Rz;(focus (first|(simp;done)|omega|(simp;omega)))))
            refine q_again ⟨(i+1,G2.set (K.length+3+c.bs.length) (AObj.cells (rwV (updV ws h (.slice id2 0 ((flL (stT S h) i).length+1) 1 false)) c.hs.length) true),setS S h i true,fun j=>if j=i then YA.length else nr j,updV ws h (.slice id2 0 ((flL (stT S h) i).length+1) 1 false)),hil,hP.settle hc hb12 hlt hil hr,?_⟩ (by dsimp only;omega) (.inl (by simp))
            dsimp only
            have e2:flL (stT (setS S h i true) h) (i+1)=flL (stT S h) i++[(i:Int)]:=by
              rw [flL_succ,if_pos (by rw [stT_put];simp)]
              congr 1
              refine flL_congr fun k hk=>?_
              rw [stT_put]
              simp [show ¬ k=i by omega]
            have e8:(fun j=>if j=h then flL (stT S h) i++[(i:Int)] else if j<h then flL (stT S j) c.bs.length else if j=h then flL (stT S h) i else [])=fun a=>if a<h then flL (stT (setS S h i true) a) c.bs.length else if a=h then flL (stT (setS S h i true) h) (i+1) else []:=by
              funext j
              by_cases e1:j=h
              · subst e1;simp [e2]
              · by_cases e3:j<h
                · simp only [if_neg e1,if_pos e3]
                  refine flL_congr fun k hk=>?_
                  rw [stT_put]
                  simp [e1]
                · simp [e1,e3]
            simp only [Nat.lt_irrefl,if_false,if_true] at hQ7
            rw [e8] at hQ7
            exact hQ7
          | false =>
            have hr:false=true↔0<idF c S h∧ct (fun a=>stT S a i) (c.hs.length-1)<ndR c i (c.hs.length-1)∧feasR c (setS S h i true):=⟨fun x=>(by cases x),fun x=>absurd (hrb.2 x.2.2) Bool.false_ne_true⟩
            have hwn:=wr_cells (v:=.slice (nr i) 0 c.hs.length 1 false) hQ4.nd (show i+1≤(rwV (fun k=>AV.slice (if k=i then YA.length else nr k) 0 c.hs.length 1 false) c.bs.length).length by rw [rwV_length];omega)
            have hQ5:=hQ4.setN hil (w:=nr i) (f:=rNd c S i) hold2 ⟨b1i.1,b1i.2.1,b1i.2.2⟩ b2i
            repeat (first|(with_reducible first|apply X1|apply X2|apply X5|apply X8)|((with_reducible apply e_end);(simp;exact Rz))|((first|((with_reducible apply O1);rfl)|((with_reducible apply O2);rfl));(simp (disch:=omega) [hil,hil2,-splice,hwn];exact Rz);exact Rz;(focus (first|(simp;done)|omega|(simp;omega))))|((with_reducible apply W3);(simp (disch:=omega) [hil,hil2,-splice,hwn];exact Rz)))
            clear hwn
            generalize M2.set (H.length+2) (AObj.cells (splice (rwV (fun k=>AV.slice (if k=i then YA.length else nr k) 0 c.hs.length 1 false) c.bs.length) i [.slice (nr i) 0 c.hs.length 1 false]) true)=M3 at hQ5 ⊢
            have hwh:=wr_cells (v:=.int .i64 (idF c (setS S h i true) h+1)) hQ5.hd (show h+1≤(avL (idF c (setS S h i true)) c.hs.length).length by rw [avL_length];omega)
            rw [avL_put (g:=idF c (setS S h i false)) hlt (fun j=>by
              rw [idF_put hlt hil hSn,idF_put hlt hil hSn]
              by_cases e:j=h
              · subst e;simp
              · simp [e,idF_put hlt hil hSn])] at hwh
            have g3:=rd_cell hQ5.hd hlt
            have hQ6:=hQ5.setH (idF c (setS S h i false))
            have hib2:=hbd _ hnn h hlt
            repeat (first|(with_reducible first|apply X2|apply X8|apply Y2)|((with_reducible apply e_end);(simp;exact Rz))|((first|((with_reducible apply O1);rfl)|((with_reducible apply O2);rfl));(simp (disch:=omega) [hlt,hlt2,g3,-splice,hwh];exact Rz);exact Rz;(focus (first|(simp;done)|omega|(simp;omega)))))
            refine q_again ⟨(i+1,M3.set (K.length+1) (AObj.cells (avL (idF c (setS S h i false)) c.hs.length) true),setS S h i false,fun j=>if j=i then nr i else if j=i then YA.length else nr j,ws),hil,hP.settle hc hb12 hlt hil hr,?_⟩ (by dsimp only;omega) (.inl (by simp))
            dsimp only
            have e2:flL (stT S h) (i+1)=flL (stT S h) i:=by rw [flL_succ];simp [stT,hSn]
            have e3:(fun j=>if j=i then rNd c S i else rNd c (setS S h i true) j)=rNd c S:=by
              funext j d
              by_cases e:j=i
              · subst e;simp
              · simp [e,rNd_put hlt hSn]
            have e4:(fun s k=>rMy c (setS S h i true) k s)=fun s k=>rMy c (setS S h i false) k s:=by
              funext s k
              rw [rMy_put,rMy_put]
            rw [e3,e4] at hQ6
            rw [rNd_off hSn,stT_off hSn,e2]
            exact hQ6
theorem ndF_last {c:Cv} {n:Nat} (hc:c.ok n) (s:Nat):ndR c s (c.hs.length-1)=ndF c s c.hs.length:=by
  have:=hc.hours
  obtain⟨m,hm⟩:∃ m,c.hs.length=m+1:=⟨c.hs.length-1,by omega⟩
  rw [hm];rfl
set_option maxHeartbeats 4000000 in
theorem c_r2NeedV (H:Heap) (l:List Str) (c:Cv) (p:Plc) (hp:CvAt H c p) (ht:TrAt H l p) (hc:c.ok l.length) (hv:validL l) :
    ACalls Try.prog F.ref02_Need [.agg (c.av p)] H (fun v h'=>∃ (lv:AV) (G:Heap),v=.tuple [lv,.int .i64 0]∧h'=H++G∧AAt h' 1 lv (iv (tnL (fun s=>ndF c s c.hs.length) c.bs.length)) c.bs.length):=by
  have hp1:=hp.t
  have hp2:=rd_lt hp.b
  have hp3:=rd_lt hp.h
  have h12:=hv.1
  have hlen:=hc.len
  have h8:=hc.hours
  have k0:=fun G=>c_r2Check (H++G) l c p (hp.app G) (ht.app G) (by omega) (by omega) (by omega)
  have kn:=fun G=>c_r2Needs (H++G) l c p (hp.app G) hc hv
  simp only [Cv.av] at k0 kn ⊢
  refine acalls_of ok_ref02_Need rfl fun hcl=>?_
  unfold ac_ref02_Need zo
  simp only [argsT,Nat.zero_add,Nat.reduceAdd]
  repeat (first|(with_reducible first|apply X1|apply X2|apply X8)|((with_reducible apply e_end);(simp;exact Rz))|((with_reducible apply O1);rfl;(simp (disch:=omega);exact Rz);exact Rz;(focus (first|(simp;done)|omega|(simp;omega)))))
  (with_reducible apply e_call);(simp;exact Rz);exact k0 _
  rintro _ _ ⟨rfl,e,rfl,he⟩
  obtain rfl:e=0:=by
    rcases he with h|h|h
    · exact h.2.2
    · exact absurd hv h.1
    · exact absurd hc h.2.1
  repeat (first|(with_reducible first|apply X1|apply X2|apply X5|apply X8)|((with_reducible apply e_end);(simp;exact Rz))|((with_reducible apply O1);rfl;(simp (disch:=omega);exact Rz);exact Rz;(focus (first|(simp;done)|omega|(simp;omega))))|((with_reducible apply W3);(simp (disch:=omega);exact Rz)))
  (with_reducible apply e_call);(simp;exact Rz);exact kn _
  rintro _ _ ⟨vs,G0,rfl,rfl,hR⟩
  repeat (first|(with_reducible first|apply X1|apply X2|apply X6|apply X8)|((with_reducible apply e_end);(simp;exact Rz))|((with_reducible apply O1);rfl;(simp (disch:=omega);exact Rz);exact Rz;(focus (first|(simp;done)|omega|(simp;omega)))))
  obtain⟨K,hK⟩:∃ K:Heap,K=H++.cells [AV.slice p.tid p.toff p.tn 9 p.tex,.slice p.bid p.boff c.bs.length 3 p.bex,.slice p.hid p.hoff c.hs.length 5 p.hex,.int .i64 c.w1,.int .i64 c.w2,.int .i64 c.y1,.int .i64 c.y2,.int .i64 c.rate,.int .i64 c.lim,.int .i64 c.base] true :: .cells [AV.slice p.tid p.toff p.tn 9 p.tex,.slice p.bid p.boff c.bs.length 3 p.bex,.slice p.hid p.hoff c.hs.length 5 p.hex,.int .i64 c.w1,.int .i64 c.w2,.int .i64 c.y1,.int .i64 c.y2,.int .i64 c.rate,.int .i64 c.lim,.int .i64 c.base] true :: .cells (rwV vs c.bs.length) true :: G0:=⟨_,rfl⟩
  have hKl:K.length=H.length+(G0.length+1+1+1):=by rw [hK];simp
  have hvs:∀ k,k<c.bs.length→vs k=.slice (idOf (vs k)) 0 c.hs.length 1 false∧K[idOf (vs k)]?=some (.cells (avL (ndR c k) c.hs.length) true)∧idOf (vs k)<K.length:=fun k hk=>by
    have a:=hR.at_ k hk
    rw [tnL_len,iv_tn] at a
    obtain⟨_,⟨_,h0⟩|⟨id,h0,e,hh⟩⟩:=a
    · omega
    · have e2:(H++[AObj.cells [AV.slice p.tid p.toff p.tn 9 p.tex,.slice p.bid p.boff c.bs.length 3 p.bex,.slice p.hid p.hoff c.hs.length 5 p.hex,.int .i64 c.w1,.int .i64 c.w2,.int .i64 c.y1,.int .i64 c.y2,.int .i64 c.rate,.int .i64 c.lim,.int .i64 c.base] true])++.cells [AV.slice p.tid p.toff p.tn 9 p.tex,.slice p.bid p.boff c.bs.length 3 p.bex,.slice p.hid p.hoff c.hs.length 5 p.hex,.int .i64 c.w1,.int .i64 c.w2,.int .i64 c.y1,.int .i64 c.y2,.int .i64 c.rate,.int .i64 c.lim,.int .i64 c.base] true :: .cells (rwV vs c.bs.length) true :: G0=K:=by rw [hK];simp
      rw [e2] at hh
      rw [e]
      exact⟨rfl,hh,(List.getElem?_eq_some_iff.1 hh).1⟩
  have hKn:K[H.length+2]?=some (.cells (rwV vs c.bs.length) true):=by rw [hK];simp
  have hKb:K[H.length]?=some (.cells [AV.slice p.tid p.toff p.tn 9 p.tex,.slice p.bid p.boff c.bs.length 3 p.bex,.slice p.hid p.hoff c.hs.length 5 p.hex,.int .i64 c.w1,.int .i64 c.w2,.int .i64 c.y1,.int .i64 c.y2,.int .i64 c.rate,.int .i64 c.lim,.int .i64 c.base] true):=by rw [hK];simp
  have b2:rd K H.length 2 1=some [.slice p.hid p.hoff c.hs.length 5 p.hex]:=by
    rw [rd_cells hKb (by simp)];rfl
  have hKH:∃ G,K=H++G:=⟨_,hK⟩
  rw [← hK]
  simp only [Nat.add_assoc,Nat.reduceAdd]
  clear hR hKb
  refine e_loop (ι:={ x:Nat × Heap × AV // x.1≤c.bs.length∧AAt (K++x.2.1) 1 x.2.2 (iv (tnL (fun s=>ndF c s c.hs.length) x.1)) x.1∧∀ q,isId x.2.2 q→K.length≤q })
    (fun x=>[(1,.ptr H.length 0),(5,x.1.2.2),(6,.slice (H.length+2) 0 c.bs.length 1 true),(7,.int .i64 x.1.1)])
    (fun x=>K++x.1.2.1) (fun x=>c.bs.length-x.1.1) ⟨(0,[],.nilslice),Nat.zero_le _,AAt.nil _ _,fun q hq=>hq.elim⟩ ?_ ?_
  · refine .inl ?_
    dsimp only
    rw [List.append_nil];simp
  · rintro⟨⟨i,G,lv⟩,hi,hl,hlq⟩
    dsimp only at hi hl hlq ⊢
    have hlv:=fun k=>hl.l.sc (m:=K.length+(G.length+k)) (by simp)
    obtain hlv0:lv.sc (K.length+G.length)=true:=hlv 0
    by_cases hlt:i<c.bs.length
    · have hlt2:(i:Int)<c.bs.length:=by omega
      have nb:=ndF_bd hc hlt (h:=c.hs.length) (Nat.le_refl _)
      obtain⟨v1,v2,v3⟩:=hvs i hlt
      have r1:rd K (H.length+2) i 1=some [.slice (idOf (vs i)) 0 c.hs.length 1 false]:=by rw [rd_cells hKn (by rw [rwV_length];omega),rwV_at _ hlt,← v1]
      have r2:=rd_cell v2 (show c.hs.length-1<c.hs.length by omega)
      rw [ndF_last hc] at r2
      have hl1:c.hs.length-1<c.hs.length:=by omega
      have hla:((c.hs.length:Int)-1).toNat=c.hs.length-1:=by omega
      have o1:H.length+2<K.length:=by omega
      have o2:H.length<K.length:=by omega
      repeat (first|(with_reducible first|apply X1|apply X2|apply X5|apply X6|apply X8|apply Y9)|((with_reducible apply e_end);(simp;exact Rz))|((first|((with_reducible apply O1);rfl)|((with_reducible apply P1);rfl)|((with_reducible apply P2);rfl)|((with_reducible apply P3);rfl));(simp (disch:=omega) [hlt,hlt2,rd_old _ o1,r1,rd_old _ o2,b2,hl1,hla,rd_old _ v3,r2];exact Rz);exact Rz;(focus (first|(simp;done)|omega|(simp;omega))))|((with_reducible apply Z9);(simp (disch:=omega) [hlt,hlt2,rd_old _ o1,r1,rd_old _ o2,b2,hl1,hla,rd_old _ v3,r2];exact Rz)))
      have hl2:AAt (K++(G++[.cells [.int .i64 (ndF c i c.hs.length)] true])) 1 lv (iv (tnL (fun s=>ndF c s c.hs.length) i)) i:=by have:=hl.app [.cells [.int .i64 (ndF c i c.hs.length)] true];simpa using this
      have hs2:=hl2.l.sc (Nat.le_refl _)
      refine d_appA (A:=K) (G:=G++[.cells [.int .i64 (ndF c i c.hs.length)] true]) (cs:=iv (tnL (fun s=>ndF c s c.hs.length) i)) (n:=i) (m:=1) (new:=[.int .i64 (ndF c i c.hs.length)]) rfl (by simp;exact Rz) (by simp;exact Rz) hl2 (fun k hk=>hlq k hk) (by simp) (by simp) (by omega) (by omega) (by simp) rfl (by simp at hs2 ⊢;exact hs2) ?_
      intro G2 v2 f3 f4 f5 f6 f7
      have hv2:=fun k=>f3.l.sc (m:=K.length+(G2.length+k)) (by simp)
      obtain hv20:v2.sc (K.length+G2.length)=true:=hv2 0
      repeat (first|(with_reducible first|apply X2|apply X8|apply Y2)|((with_reducible first|apply e_end|apply d_end);(simp;exact Rz))|((first|((with_reducible apply O1);rfl)|((with_reducible apply P1);rfl));(simp (disch:=omega);exact Rz);exact Rz;(focus (first|(simp;done)|omega|(simp;omega)))))
      refine q_again ⟨(i+1,G2,v2),by dsimp only;omega,?_,f4⟩ (by dsimp only;omega) (.inl (by simp))
      dsimp only
      rw [tnL_succ,iv_app];exact f3
    · have hlt2:¬ (i:Int)<c.bs.length:=by omega
      obtain rfl:i=c.bs.length:=by omega
      obtain⟨G3,rfl⟩:=hKH
      repeat (first|(with_reducible first|apply X1|apply X2|apply X3|apply X4|apply X8|apply Y1|apply Y4|apply Y6)|((with_reducible apply e_end);(simp;exact Rz))|((with_reducible apply O1);rfl;(simp (disch:=omega) [hlt,hlt2];exact Rz);exact Rz;(focus (first|(simp;done)|omega|(simp;omega))))|((with_reducible apply W3);(simp (disch:=omega) [hlt,hlt2];exact Rz)))
      refine q_stay (.inr rfl) (by simp;exact Rz) ⟨lv,G3++G,rfl,by simp,by simpa using hl⟩
theorem memL_end {set i:Nat} (h:set / 2 ^ i=0):∀ {k:Nat},i≤k→memL set k=memL set i
  | 0, hk => by obtain rfl : i = 0 := by omega
                rfl
  | k+1,hk=>by
    by_cases e:i=k+1
    · rw [e]
    · have hb:set.testBit k=false:=by
        have h1:set<2 ^ i:=by
          rcases Nat.div_eq_zero_iff.1 h with h|h
          · exact absurd h (Nat.pos_iff_ne_zero.1 (Nat.two_pow_pos i))
          · exact h
        exact Nat.testBit_lt_two_pow (Nat.lt_of_lt_of_le h1 (Nat.pow_le_pow_right (by omega) (by omega)))
      simp only [memL,hb,Bool.false_eq_true,if_false,List.append_nil]
      exact memL_end h (by omega)
set_option maxHeartbeats 1000000 in
theorem c_r2members (H:Heap) (set:Nat) (hs:set<256) :
    ACalls Try.prog F.ref02_members [.int .i64 set] H (fun v h'=>v=lsV H 1 (memL set 8).length∧h'=H++lsO (memL set 8).length (iv (memL set 8))):=by
  refine acalls_of ok_ref02_members rfl fun hcl=>?_
  unfold ac_ref02_members zo
  simp only [argsT,Nat.zero_add,Nat.reduceAdd]
  repeat (first|(with_reducible first|apply X1|apply X2|apply X6|apply X8)|((with_reducible apply e_end);(simp;exact Rz))|((with_reducible apply O1);rfl;(simp (disch:=omega);exact Rz);exact Rz;(focus (first|(simp;done)|omega|(simp;omega)))))
  refine e_loop (ι:={ x:Nat × Heap × AV // x.1≤8∧AAt (H++x.2.1) 1 x.2.2 (iv (memL set x.1)) (memL set x.1).length∧∀ q,isId x.2.2 q→H.length≤q })
    (fun x=>[(0,.int .i64 set),(3,x.1.2.2),(4,.int .i64 x.1.1)])
    (fun x=>H++x.1.2.1) (fun x=>8-x.1.1) ⟨(0,[],.nilslice),by simp,AAt.nil _ _,fun q hq=>hq.elim⟩ ?_ ?_
  · exact .inl (by simp)
  · rintro⟨⟨i,G,lv⟩,hi,hl,hlq⟩
    dsimp only at hi hl hlq ⊢
    have hlv:=fun k=>hl.l.sc (m:=H.length+(G.length+k)) (by simp)
    obtain hlv0:lv.sc (H.length+G.length)=true:=hlv 0
    have e1:min i IntKind.i64.bits=i:=by simp [IntKind.bits];omega
    obtain⟨q,hq⟩:∃ q,q=set / 2 ^ i:=⟨_,rfl⟩
    have e2:(set:Int).fdiv (2 ^ i)=(q:Int):=by
      rw [hq,Int.fdiv_eq_ediv_of_nonneg _ (by exact_mod_cast Nat.zero_le (2 ^ i))];simp
    have hle3:q<256:=by rw [hq];exact Nat.lt_of_le_of_lt (Nat.div_le_self _ _) hs
    have hle:=memL_le set i
    by_cases hlt:0<q
    · have hlt8:i<8:=by
        rcases Nat.lt_or_ge i 8 with h|h
        · exact h
        · obtain rfl:i=8:=by omega
          rw [Nat.div_eq_of_lt hs] at hq;omega
      have hlt2:(0:Int)<(q:Int):=by omega
      have hm:memL set (i+1)=memL set i++if set.testBit i=true then [(i:Int)] else []:=rfl
      have hbt:=bit_has set i hs hlt8
      have e5:((q:Int) % 2 ^ IntKind.i64.bits).toNat=q % 2 ^ IntKind.i64.bits:=by simp only [IntKind.bits];omega
      rw [e1,e2,e5] at hbt
      repeat (first|(with_reducible first|apply X1|apply X2|apply X5|apply X6|apply X8)|((with_reducible apply e_end);(simp;exact Rz))|((with_reducible apply O1);rfl;(simp (disch:=omega) [e2,hlt,hlt2];exact Rz);exact Rz;(focus (first|(simp;done)|omega|(simp;omega))))|((with_reducible apply Z9);(simp (disch:=omega) [e2,hlt,hlt2];exact Rz)))
      rw [hbt]
      cases hbit:set.testBit i with
      | true =>
        rw [hbit,if_pos rfl] at hm
        repeat (first|(with_reducible apply X2)|((with_reducible apply O1);rfl;(simp (disch:=omega);exact Rz);exact Rz;(focus (first|(simp;done)|omega|(simp;omega))))|((with_reducible apply Z9);(simp (disch:=omega);exact Rz)))
        refine e_appA (A:=H) (G:=G++[.cells [.int .i64 i] true]) (cs:=iv (memL set i)) (n:=(memL set i).length) (m:=1) (new:=[.int .i64 i]) (by simp) (by simp;exact Rz) (by simp;exact Rz) (by have:=hl.app [.cells [.int .i64 i] true];simpa using this) (fun k hk=>hlq k hk) (by simp) (by simp) (by omega) (by omega) ?_
        intro G2 v2 f3 f4 f5 f6 f7
        have hv2:=fun k=>f3.l.sc (m:=H.length+(G2.length+k)) (by simp)
        obtain hv20:v2.sc (H.length+G2.length)=true:=hv2 0
        repeat (first|(with_reducible first|apply X2|apply X8|apply Y2)|((with_reducible apply e_end);(simp;exact Rz))|((with_reducible apply O1);rfl;(simp (disch:=omega);exact Rz);exact Rz;(focus (first|(simp;done)|omega|(simp;omega)))))
        refine q_again ⟨(i+1,G2,v2),by dsimp only;omega,?_,f4⟩ (by dsimp only;omega) (.inl (by simp))
        dsimp only
        rw [hm,iv_app,List.length_append];exact f3
      | false =>
        rw [hbit] at hm
        simp only [Bool.false_eq_true,if_false,List.append_nil] at hm
        repeat (first|(with_reducible first|apply X2|apply X5|apply X8|apply Y2)|((with_reducible apply e_end);(simp;exact Rz))|((with_reducible apply O1);rfl;(simp (disch:=omega);exact Rz);exact Rz;(focus (first|(simp;done)|omega|(simp;omega))))|((with_reducible apply W3);(simp (disch:=omega);exact Rz)))
        refine q_again ⟨(i+1,G,lv),by dsimp only;omega,?_,hlq⟩ (by dsimp only;omega) (.inl (by simp))
        dsimp only
        rw [hm];exact hl
    · have h0:set / 2 ^ i=0:=by omega
      have hlt2:¬ (0:Int)<(q:Int):=by omega
      rw [← memL_end h0 hi] at hl
      repeat (first|(with_reducible first|apply X1|apply X2|apply X3|apply X4|apply X8|apply Y1|apply Y4|apply Y6)|((with_reducible apply e_end);(simp;exact Rz))|((with_reducible apply O1);rfl;(simp (disch:=omega) [e2,hlt,hlt2];exact Rz);exact Rz;(focus (first|(simp;done)|omega|(simp;omega))))|((with_reducible apply W3);(simp (disch:=omega) [e2,hlt,hlt2];exact Rz)))
      exact q_post (v':=lsV H 1 (memL set 8).length) (.inr rfl) (by simp;exact Rz) (le_ls (fun x=>x) (fun _ _=>rfl) (fun _ _ h=>h) (iv_plain _) hl (fun q hq=>hlq q hq)) ⟨rfl,rfl⟩
set_option maxHeartbeats 1000000 in
theorem c_r2before (H:Heap) (va vb:AV) (a b:List Int) (ha:IAt H va a) (hb:IAt H vb b) (hn:(a.length:Int)<1000000) :
    ACalls Try.prog F.ref02_before [va,vb] H (fun v h'=>v=.bool (fewF a b)∧h'=H):=by
  have hsa:∀ k,va.sc (H.length+k)=true:=fun k=>RAt.sc ha (by omega)
  have hsb:∀ k,vb.sc (H.length+k)=true:=fun k=>RAt.sc hb (by omega)
  have hsa0:=hsa 0
  have hsb0:=hsb 0
  rw [Nat.add_zero] at hsa0 hsb0
  refine acalls_of ok_ref02_before rfl fun hcl=>?_
  unfold ac_ref02_before zo
  simp only [argsT,Nat.zero_add,Nat.reduceAdd]
  repeat (first|(with_reducible first|apply X1|apply X2|apply X8)|((with_reducible apply e_end);(simp;exact Rz))|((with_reducible apply O1);rfl;(simp (disch:=omega);exact Rz);exact Rz;(focus (first|(simp;done)|omega|(simp;omega)))))
  (with_reducible apply e_op);rfl;exact RAt.len ha _ (by simp);exact Rz;trivial
  repeat ((with_reducible apply O1);rfl;(simp (disch:=omega);exact Rz);exact Rz;(focus (first|(simp;done)|omega|(simp;omega))))
  (with_reducible apply e_op);rfl;exact RAt.len hb _ (by simp);exact Rz;trivial
  by_cases hab:a.length=b.length
  rotate_left
  · have hab2:¬ (a.length:Int)=b.length:=by omega
    repeat (first|(with_reducible first|apply X1|apply X2|apply X8)|((with_reducible apply e_end);(simp;exact Rz))|((with_reducible apply O1);rfl;(simp (disch:=omega) [hab,hab2];exact Rz);exact Rz;(focus (first|(simp;done)|omega|(simp;omega))))|((with_reducible apply Z9);(simp (disch:=omega) [hab,hab2];exact Rz)))
    (with_reducible apply e_op);rfl;exact RAt.len ha _ (by simp);exact Rz;trivial
    repeat ((with_reducible apply O1);rfl;(simp (disch:=omega);exact Rz);exact Rz;(focus (first|(simp;done)|omega|(simp;omega))))
    (with_reducible apply e_op);rfl;exact RAt.len hb _ (by simp);exact Rz;trivial
    repeat (first|(with_reducible first|apply X3|apply X8|apply X9)|((with_reducible apply e_end);(simp;exact Rz))|((with_reducible apply O1);rfl;(simp (disch:=omega);exact Rz);exact Rz;(focus (first|(simp;done)|omega|(simp;omega)))))
    exact q_drop0 (.inr rfl) (by simp;exact Rz) (by simp) ⟨by rw [fewF,if_neg hab],rfl⟩
  · have hab2:(a.length:Int)=b.length:=by omega
    have hff:fewF a b=lexS a b:=by rw [fewF,if_pos hab]
    rw [hff]
    repeat (first|(with_reducible first|apply X1|apply X2|apply X5|apply X6|apply X8)|((with_reducible apply e_end);(simp;exact Rz))|((with_reducible apply O1);rfl;(simp (disch:=omega) [hab,hab2];exact Rz);exact Rz;(focus (first|(simp;done)|omega|(simp;omega))))|((with_reducible apply W3);(simp (disch:=omega) [hab,hab2];exact Rz)))
    refine e_loop (ι:={ i:Nat // i≤a.length∧∀ j (h1:j<a.length) (h2:j<b.length),j<i→a[j]=b[j] })
      (fun i=>[(0,va),(1,vb),(5,.int .i64 i.1)]) (fun _=>H) (fun i=>a.length-i.1) ⟨0,by simp⟩ ?_ ?_
    · exact .inl (by simp)
    · rintro⟨i,hi1,hi2⟩
      dsimp only
      repeat (first|(with_reducible first|apply X1|apply X2)|((with_reducible apply O1);rfl;(simp (disch:=omega);exact Rz);exact Rz;(focus (first|(simp;done)|omega|(simp;omega)))))
      (with_reducible apply e_op);rfl;exact RAt.len ha _ (by simp);exact Rz;trivial
      by_cases hlt:i<a.length
      · have hlt2:(i:Int)<a.length:=by omega
        have hlb:i<b.length:=by omega
        have hlb2:(i:Int)<b.length:=by omega
        obtain⟨id,off,ex,rfl,hx,hid⟩:=IAt.get ha hlt
        obtain⟨id2,off2,ex2,rfl,hy,hid2⟩:=IAt.get hb hlb
        have hla:=lexS_at i a b hlt hlb hi2
        by_cases h1:a[i]=b[i]
        · repeat (first|(with_reducible first|apply X1|apply X2|apply X5|apply X6|apply X8|apply Y2|apply Y9)|((with_reducible first|apply e_end|apply d_end);(simp;exact Rz))|((first|((with_reducible apply O1);rfl)|((with_reducible apply P1);rfl)|((with_reducible apply P2);rfl));(simp (disch:=omega) [hlt,hlt2,hx,hlb,hlb2,hy,h1];exact Rz);exact Rz;(focus (first|(simp;done)|omega|(simp;omega))))|((with_reducible apply Z9);(simp (disch:=omega) [hlt,hlt2,hx,hlb,hlb2,hy,h1];exact Rz))|((with_reducible apply W3);(simp (disch:=omega) [hlt,hlt2,hx,hlb,hlb2,hy,h1];exact Rz)))
          refine q_again ⟨i+1,hlt,fun j k1 k2 hj=>?_⟩ (by dsimp only;omega) (.inl (by simp))
          by_cases hji:j=i
          · subst hji;exact h1
          · exact hi2 j k1 k2 (by omega)
        · repeat (first|(with_reducible first|apply X1|apply X3|apply X5|apply X6|apply X8|apply X9|apply Y3|apply Y5|apply Y9)|((with_reducible first|apply e_end|apply d_end);(simp;exact Rz))|((first|((with_reducible apply O1);rfl)|((with_reducible apply P1);rfl)|((with_reducible apply P2);rfl));(simp (disch:=omega) [hlt,hlt2,hx,hlb,hlb2,hy,h1];exact Rz);exact Rz;(focus (first|(simp;done)|omega|(simp;omega))))|((with_reducible apply Z9);(simp (disch:=omega) [hlt,hlt2,hx,hlb,hlb2,hy,h1];exact Rz)))
          exact q_drop0 (.inr rfl) (by simp;exact Rz) (by simp) ⟨by rw [hla];simp [h1],rfl⟩
      · have hlt2:¬ (i:Int)<a.length:=by omega
        obtain rfl:i=a.length:=by omega
        have hle:=lexS_eq a b hab (fun j h1 h2=>hi2 j h1 h2 h1)
        repeat (first|(with_reducible first|apply X1|apply X2|apply X3|apply X4|apply X8|apply Y1|apply Y4|apply Y6)|((with_reducible apply e_end);(simp;exact Rz))|((with_reducible apply O1);rfl;(simp (disch:=omega) [hlt,hlt2];exact Rz);exact Rz;(focus (first|(simp;done)|omega|(simp;omega))))|((with_reducible apply W3);(simp (disch:=omega) [hlt,hlt2];exact Rz)))
        exact q_drop0 (.inr rfl) (by simp;exact Rz) (by simp) ⟨by rw [hle],rfl⟩
open Go.Hall
theorem fstI_cg {L L':Nat→List Int}:∀ {k:Nat},(∀ i,i≤k→L i=L' i)→fstI L k=fstI L' k
  | 0,_=>rfl
  | k+1,h=>by
    have e:=fstI_cg (k:=k) fun i hi=>h i (by omega)
    have l:=fstI_le L' k
    simp only [fstI,e,h (k+1) (Nat.le_refl _),h (fstI L' k) (by omega)]
def bst (c:Cv) (last k:Nat):List Int:=shW c last k (fstI (shW c last k) ((shL c last k).length-1))
theorem shOf_bst (c:Cv) (last:Nat):shOf c last=bst c last (2 ^ last):=rfl
theorem shL_skip {c:Cv} {last k:Nat} (h:shB c last k=false):shL c last (k+1)=shL c last k:=by simp [shL,h]
theorem shL_add {c:Cv} {last k:Nat} (h:shB c last k=true):shL c last (k+1)=shL c last k++[k]:=by simp [shL,h]
theorem bst_skip {c:Cv} {last k:Nat} (h:shB c last k=false):bst c last (k+1)=bst c last k:=by
  have e:shW c last (k+1)=shW c last k:=by funext i;simp only [shW,shL_skip h]
  simp only [bst,e,shL_skip h]
theorem bst_new {c:Cv} {last k:Nat} (h:shB c last k=true) (h0:(shL c last k).length=0):bst c last (k+1)=memL k 8:=by
  have e:=List.length_eq_zero_iff.1 h0
  simp [bst,shW,shL_add h,e,fstI]
theorem bst_add {c:Cv} {last k:Nat} (h:shB c last k=true) (h0:0<(shL c last k).length):bst c last (k+1)=if fewF (memL k 8) (bst c last k)=true then memL k 8 else bst c last k:=by
  have e1:∀ i,i<(shL c last k).length→shW c last (k+1) i=shW c last k i:=fun i hi=>by
    simp only [shW,shL_add h,List.getD_eq_getElem?_getD,List.getElem?_append_left hi]
  have e2:shW c last (k+1) (shL c last k).length=memL k 8:=by
    simp only [shW,shL_add h,List.getD_eq_getElem?_getD]
    rw [List.getElem?_append_right (Nat.le_refl _)];simp
  obtain⟨m,hm⟩:∃ m,(shL c last k).length=m+1:=⟨(shL c last k).length-1,by omega⟩
  have e3:fstI (shW c last (k+1)) m=fstI (shW c last k) m:=fstI_cg fun i hi=>e1 i (by omega)
  have l:=fstI_le (shW c last k) m
  have e4:bst c last k=shW c last k (fstI (shW c last k) m):=by simp only [bst,hm,Nat.add_sub_cancel]
  have e5:(shL c last (k+1)).length-1=m+1:=by rw [shL_add h,List.length_append,hm];rfl
  rw [hm] at e2
  have e6:=e1 (fstI (shW c last k) m) (by omega)
  have e7:bst c last (k+1)=shW c last (k+1) (fstI (shW c last (k+1)) (m+1)):=by simp only [bst,e5]
  have e8:fstI (shW c last (k+1)) (m+1)=if fewF (shW c last (k+1) (m+1)) (shW c last (k+1) (fstI (shW c last (k+1)) m))=true then m+1 else fstI (shW c last (k+1)) m:=rfl
  rw [e3,e2,e6] at e8
  rw [e7,e8,e4]
  split
  · exact e2
  · exact e6
theorem shortF_shB {c:Cv} {last set:Nat} (hl:last<c.hs.length) (h8:c.hs.length≤8) (hs:set<2 ^ last) :
    shortF c.bs.length (last+1) c.hs.length (ndR c) (fun h _=>decide (h<c.hs.length) && (c.h h).cold) (handsF c) set=shB c last set:=by
  simp only [shortF,shB]
  have e1:sm (fun h=>if set.testBit h=true then handsF c h else 0) c.hs.length=hndF c set 8:=by
    simp only [hndF]
    refine (sm_same (a:=c.hs.length) h8 fun i h1 _=>?_).symm
    rw [if_neg (fun x=>by have:=bit_lt hs x;omega)]
  have e2:sm (fun s=>lackT (ndR c s) (fun h=>decide (h<c.hs.length) && (c.h h).cold && !set.testBit h) (last+1)) c.bs.length=askF c last set c.bs.length:=by
    simp only [askF]
    refine sm_congr fun s hs=>lackT_congr (fun i hi=>rfl) fun i hi=>?_
    simp [show i<c.hs.length by omega]
  rw [e1,e2]
open Go.Hall
set_option maxHeartbeats 4000000 in
theorem c_r2ShortV (H:Heap) (l:List Str) (c:Cv) (p:Plc) (hp:CvAt H c p) (ht:TrAt H l p) (hc:c.ok l.length) (hv:validL l) :
    ACalls Try.prog F.ref02_Short [.agg (c.av p)] H (fun v h'=>(∃ (last:Nat) (bv:AV) (G:Heap),last<c.hs.length∧(∀ k,k<last→shN c k=0)∧0<shN c last∧v=.tuple [.int .i64 last,bv,.int .i64 0]∧h'=H++G∧IAt h' bv (shOf c last))∨((∀ k,k<c.hs.length→shN c k=0)∧v=.tuple [.int .i64 0,.nilslice,.int .i64 6]∧h'=H)):=by
  have hp1:=hp.t
  have hp2:=rd_lt hp.b
  have hp3:=rd_lt hp.h
  have h12:=hv.1
  have hlen:=hc.len
  have h8:=hc.hours
  have k0:=fun G=>c_r2Check (H++G) l c p (hp.app G) (ht.app G) (by omega) (by omega) (by omega)
  have kn:=fun G=>c_r2Needs (H++G) l c p (hp.app G) hc hv
  have kf:=fun G=>c_r2free (H++G) c p _ (hp.app G) hc (by omega)
  simp only [Cv.av] at k0 kn kf ⊢
  refine acalls_of ok_ref02_Short rfl fun hcl=>?_
  unfold ac_ref02_Short zo
  simp only [argsT,Nat.zero_add,Nat.reduceAdd]
  repeat (first|(with_reducible first|apply X1|apply X2|apply X8)|((with_reducible apply e_end);(simp;exact Rz))|((with_reducible apply O1);rfl;(simp (disch:=omega);exact Rz);exact Rz;(focus (first|(simp;done)|omega|(simp;omega)))))
  (with_reducible apply e_call);(simp;exact Rz);exact k0 _
  rintro _ _ ⟨rfl,e,rfl,he⟩
  obtain rfl:e=0:=by
    rcases he with h|h|h
    · exact h.2.2
    · exact absurd hv h.1
    · exact absurd hc h.2.1
  repeat (first|(with_reducible first|apply X1|apply X2|apply X5|apply X8)|((with_reducible apply e_end);(simp;exact Rz))|((with_reducible apply O1);rfl;(simp (disch:=omega);exact Rz);exact Rz;(focus (first|(simp;done)|omega|(simp;omega))))|((with_reducible apply W3);(simp (disch:=omega);exact Rz)))
  (with_reducible apply e_call);(simp;exact Rz);exact kn _
  rintro _ _ ⟨vs,G,rfl,rfl,hR⟩
  repeat (first|(with_reducible first|apply X1|apply X2|apply X8)|((with_reducible apply e_end);(simp;exact Rz))|((with_reducible apply O1);rfl;(simp (disch:=omega);exact Rz);exact Rz;(focus (first|(simp;done)|omega|(simp;omega)))))
  (with_reducible apply e_call);(simp;exact Rz);exact kf _
  rintro _ X ⟨rfl,hX⟩
  obtain⟨K,hK⟩:∃ K:Heap,K=H++.cells [AV.slice p.tid p.toff p.tn 9 p.tex,.slice p.bid p.boff c.bs.length 3 p.bex,.slice p.hid p.hoff c.hs.length 5 p.hex,.int .i64 c.w1,.int .i64 c.w2,.int .i64 c.y1,.int .i64 c.y2,.int .i64 c.rate,.int .i64 c.lim,.int .i64 c.base] true :: .cells [AV.slice p.tid p.toff p.tn 9 p.tex,.slice p.bid p.boff c.bs.length 3 p.bex,.slice p.hid p.hoff c.hs.length 5 p.hex,.int .i64 c.w1,.int .i64 c.w2,.int .i64 c.y1,.int .i64 c.y2,.int .i64 c.rate,.int .i64 c.lim,.int .i64 c.base] true :: .cells (rwV vs c.bs.length) true :: G:=⟨_,rfl⟩
  have hKl:K.length=H.length+(G.length+1+1+1):=by rw [hK];simp
  have hvs:∀ k,k<c.bs.length→vs k=.slice (idOf (vs k)) 0 c.hs.length 1 false∧K[idOf (vs k)]?=some (.cells (avL (ndR c k) c.hs.length) true)∧H.length+3≤idOf (vs k)∧idOf (vs k)<K.length:=fun k hk=>by
    have a:=hR.at_ k hk
    have lo:=hR.lo k hk
    rw [tnL_len,iv_tn] at a
    obtain⟨_,⟨_,h0⟩|⟨id,h0,e,hh⟩⟩:=a
    · omega
    · have e2:(H++[AObj.cells [AV.slice p.tid p.toff p.tn 9 p.tex,.slice p.bid p.boff c.bs.length 3 p.bex,.slice p.hid p.hoff c.hs.length 5 p.hex,.int .i64 c.w1,.int .i64 c.w2,.int .i64 c.y1,.int .i64 c.y2,.int .i64 c.rate,.int .i64 c.lim,.int .i64 c.base] true])++.cells [AV.slice p.tid p.toff p.tn 9 p.tex,.slice p.bid p.boff c.bs.length 3 p.bex,.slice p.hid p.hoff c.hs.length 5 p.hex,.int .i64 c.w1,.int .i64 c.w2,.int .i64 c.y1,.int .i64 c.y2,.int .i64 c.rate,.int .i64 c.lim,.int .i64 c.base] true :: .cells (rwV vs c.bs.length) true :: G=K:=by rw [hK];simp
      rw [e2] at hh
      rw [e] at lo ⊢
      have:=lo id rfl
      simp only [List.length_append,List.length_cons,List.length_nil] at this
      exact⟨rfl,hh,by simp only [idOf];omega,(List.getElem?_eq_some_iff.1 hh).1⟩
  have hKn:K[H.length+2]?=some (.cells (rwV vs c.bs.length) true):=by rw [hK];simp
  have hKb:K[H.length]?=some (.cells [AV.slice p.tid p.toff p.tn 9 p.tex,.slice p.bid p.boff c.bs.length 3 p.bex,.slice p.hid p.hoff c.hs.length 5 p.hex,.int .i64 c.w1,.int .i64 c.w2,.int .i64 c.y1,.int .i64 c.y2,.int .i64 c.rate,.int .i64 c.lim,.int .i64 c.base] true):=by rw [hK];simp
  have hKh:∀ j,j<H.length→K[j]?=H[j]?:=fun j hj=>by rw [hK,List.getElem?_append_left hj]
  rw [← hK] at hX
  have hXl:=hX.len
  have hXK:=hX.pre
  have oX:∀ j,j<K.length→X[j]?=K[j]?:=hXK
  have xb:X[H.length]?=some (.cells [AV.slice p.tid p.toff p.tn 9 p.tex,.slice p.bid p.boff c.bs.length 3 p.bex,.slice p.hid p.hoff c.hs.length 5 p.hex,.int .i64 c.w1,.int .i64 c.w2,.int .i64 c.y1,.int .i64 c.y2,.int .i64 c.rate,.int .i64 c.lim,.int .i64 c.base] true):=by rw [oX _ (by omega)];exact hKb
  have b2:rd X H.length 2 1=some [.slice p.hid p.hoff c.hs.length 5 p.hex]:=by rw [rd_cells xb (by simp)];rfl
  have xn:∀ k,k<c.bs.length→rd X (H.length+2) k 1=some [.slice (idOf (vs k)) 0 c.hs.length 1 false]:=fun k hk=>by
    rw [rd_cells (by rw [oX _ (by omega)];exact hKn) (by rw [rwV_length];omega),rwV_at _ hk,← (hvs k hk).1]
  have xr:∀ k,k<c.bs.length→∀ i,i<c.hs.length→rd X (idOf (vs k)) i 1=some [.int .i64 (ndR c k i)]:=fun k hk i hi=>by
    have b:=hvs k hk
    exact rd_cell (by rw [oX _ b.2.2.2];exact b.2.1) hi
  have xl:∀ k,k<c.bs.length→idOf (vs k)<X.length:=fun k hk=>by have:=(hvs k hk).2.2.2;omega
  have mM:MAt X (.slice (K.length+2) 0 c.bs.length 1 true) c.bs.length c.hs.length fun s h=>.bool (decide (h<c.hs.length) && (c.h h).cold):=by
    refine⟨K.length+2,0,true,rfl,by omega,fun k hk=>⟨K.length+3+k,0,true,?_,by omega,fun i hi=>by rw [Nat.zero_add];exact rd_B (hX.row k hk) hi⟩⟩
    rw [Nat.zero_add,rd_cells hX.md (by rw [rwV_length];omega),rwV_at _ hk,if_pos hk]
  have mH:NAt X (.slice (K.length+1) 0 c.hs.length 1 true) c.hs.length fun h=>.int .i64 (handsF c h) :=
    ⟨K.length+1,0,true,rfl,by omega,fun k hk=>by rw [Nat.zero_add];exact rd_cell hX.hd hk⟩
  have ePre:∃ G',X=H++G':=ext_of (by omega) fun j hj=>by rw [hXK j (by omega)];exact hKh j hj
  have oH2:H.length+2<X.length:=by omega
  have oH:H.length<X.length:=by omega
  rw [← hK]
  simp only [Nat.add_assoc,Nat.reduceAdd]
  repeat (first|(with_reducible first|apply X1|apply X2|apply X6|apply X8)|((with_reducible apply e_end);(simp;exact Rz))|((with_reducible apply O1);rfl;(simp (disch:=omega);exact Rz);exact Rz;(focus (first|(simp;done)|omega|(simp;omega)))))
  clear hX hR hvs hKn hKb hKh hXK oX xb k0 kn kf
  refine e_loop (ι:={ x:Nat × Heap // x.1≤c.hs.length∧∀ k,k<x.1→shN c k=0 })
    (fun x=>[(1,.ptr H.length 0),(6,.slice (H.length+2) 0 c.bs.length 1 true),(7,.slice (K.length+2) 0 c.bs.length 1 true),(8,.slice (K.length+1) 0 c.hs.length 1 true),(9,.int .i64 x.1.1)])
    (fun x=>X++x.1.2) (fun x=>c.hs.length-x.1.1) ⟨(0,[]),Nat.zero_le _,fun k hk=>by omega⟩ ?_ ?_
  · refine .inl ?_
    dsimp only
    rw [List.append_nil];simp
  · rintro⟨⟨h,G⟩,hh,hz⟩
    dsimp only at hh hz ⊢
    by_cases hlt:h<c.hs.length
    rotate_left
    · have hlt2:¬ (h:Int)<c.hs.length:=by omega
      obtain rfl:h=c.hs.length:=by omega
      obtain⟨G',hG'⟩:=ePre
      repeat (first|(with_reducible first|apply X1|apply X2|apply X3|apply X4|apply X8|apply Y1|apply Y4|apply Y6)|((with_reducible apply e_end);(simp;exact Rz))|((with_reducible apply O1);rfl;(simp (disch:=omega) [hlt,hlt2,rd_old _ oH,b2];exact Rz);exact Rz;(focus (first|(simp;done)|omega|(simp;omega))))|((with_reducible apply W3);(simp (disch:=omega) [hlt,hlt2,rd_old _ oH,b2];exact Rz)))
      rw [hG',List.append_assoc]
      exact q_drop (.inr rfl) (by simp;exact Rz) (by simp [AV.sc,scL]) (.inr ⟨hz,rfl,rfl⟩)
    have hlt2:(h:Int)<c.hs.length:=by omega
    have hN0:0<c.bs.length:=by omega
    repeat (first|(with_reducible first|apply X1|apply X2|apply X5|apply X6|apply X8)|((with_reducible apply e_end);(simp;exact Rz))|((with_reducible apply O1);rfl;(simp (disch:=omega) [hlt,hlt2,rd_old _ oH,b2];exact Rz);exact Rz;(focus (first|(simp;done)|omega|(simp;omega))))|((with_reducible apply Z9);(simp (disch:=omega) [hlt,hlt2,rd_old _ oH,b2];exact Rz)))
    rw [rwV_nil]
    refine e_loop (ι:={ i:Nat // i≤c.bs.length })
      (fun i=>[(1,.ptr H.length 0),(6,.slice (H.length+2) 0 c.bs.length 1 true),(7,.slice (K.length+2) 0 c.bs.length 1 true),(8,.slice (K.length+1) 0 c.hs.length 1 true),(9,.int .i64 h),(10,.slice (X.length+G.length) 0 c.bs.length 1 true),(11,.int .i64 i.1)])
      (fun i=>X++(G++[.cells (rwV (fun k=>if k<i.1 then AV.slice (idOf (vs k)) 0 (h+1) 1 false else .nilslice) c.bs.length) true])) (fun i=>c.bs.length-i.1) ⟨0,Nat.zero_le _⟩ ?_ ?_
    · refine .inl ?_
      dsimp only
      simp
    · rintro⟨i,hi⟩
      dsimp only
      by_cases hil:i<c.bs.length
      · have hil2:(i:Int)<c.bs.length:=by omega
        have hh1:(h:Int)+1≤c.hs.length:=by omega
        have hh2:h+1≤c.hs.length:=by omega
        have hh3:((h:Int)+1).toNat=h+1:=by omega
        repeat (first|(with_reducible first|apply X1|apply X2|apply X5|apply X6|apply X8)|((with_reducible apply e_end);(simp;exact Rz))|((with_reducible apply O1);rfl;(simp (disch:=omega) [hil,hil2,rd_old _ oH2,xn i hil,hh1,hh2,hh3];exact Rz);exact Rz;(focus (first|(simp;done)|omega|(simp;omega))))|((with_reducible apply Z9);(simp (disch:=omega) [hil,hil2,rd_old _ oH2,xn i hil,hh1,hh2,hh3];exact Rz)))
        have hput:splice (rwV (fun k=>if k<i then AV.slice (idOf (vs k)) 0 (h+1) 1 false else .nilslice) c.bs.length) i [.slice (idOf (vs i)) 0 (h+1) 1 false]=rwV (fun k=>if k<i+1 then AV.slice (idOf (vs k)) 0 (h+1) 1 false else .nilslice) c.bs.length:=by
          rw [rwV_put _ hil]
          congr 1
          funext k
          simp only [updV]
          by_cases e:k=i
          · subst e;simp
          · by_cases e2:k<i
            · simp [e,e2,show k<i+1 by omega]
            · simp [e,e2,show ¬ k<i+1 by omega]
        have hrl:=rwV_length (fun k=>if k<i then AV.slice (idOf (vs k)) 0 (h+1) 1 false else .nilslice) c.bs.length
        have hle1:i+1≤c.bs.length:=hil
        repeat (first|(with_reducible first|apply X2|apply X8|apply Y2)|((with_reducible apply e_end);(simp;exact Rz))|((first|((with_reducible apply O1);rfl)|((with_reducible apply O2);rfl));(simp (disch:=omega) [hil,hil2,hrl,hle1,-splice,hput];exact Rz);exact Rz;(focus (first|(simp;done)|omega|(simp;omega)))))
        exact q_again ⟨i+1,hil⟩ (by dsimp only;omega) (.inl (by simp))
      · have hil2:¬ (i:Int)<c.bs.length:=by omega
        obtain rfl:i=c.bs.length:=by omega
        repeat (first|(with_reducible first|apply X1|apply X2|apply X4|apply X6|apply X8|apply Y1|apply Y4|apply Y6)|((with_reducible apply e_end);(simp;exact Rz))|((with_reducible apply O1);rfl;(simp (disch:=omega) [hil,hil2];exact Rz);exact Rz;(focus (first|(simp;done)|omega|(simp;omega))))|((with_reducible apply W3);(simp (disch:=omega) [hil,hil2];exact Rz)))
        have mN:MAt (X++(G++[.cells (rwV (fun k=>if k<c.bs.length then AV.slice (idOf (vs k)) 0 (h+1) 1 false else .nilslice) c.bs.length) true])) (.slice (X.length+G.length) 0 c.bs.length 1 true) c.bs.length (h+1) fun s i=>.int .i64 (ndR c s i):=by
          refine⟨X.length+G.length,0,true,rfl,by simp,fun k hk=>⟨idOf (vs k),0,false,?_,by have:=xl k hk;simp;omega,fun i hi=>?_⟩⟩
          · rw [Nat.zero_add,rd_cells (cs:=rwV (fun k=>if k<c.bs.length then AV.slice (idOf (vs k)) 0 (h+1) 1 false else .nilslice) c.bs.length) (b:=true) (by rw [← List.append_assoc,List.getElem?_append_right (by simp)];simp) (by rw [rwV_length];omega),rwV_at _ hk];simp only [if_pos hk]
          · rw [Nat.zero_add,rd_old _ (xl k hk)];exact xr k hk i (by omega)
        have mM':=mM.app (G++[.cells (rwV (fun k=>if k<c.bs.length then AV.slice (idOf (vs k)) 0 (h+1) 1 false else .nilslice) c.bs.length) true])
        have mH':=mH.app (G++[.cells (rwV (fun k=>if k<c.bs.length then AV.slice (idOf (vs k)) 0 (h+1) 1 false else .nilslice) c.bs.length) true])
        have hXG:X.length+G.length<(X++(G++[AObj.cells (rwV (fun k=>if k<c.bs.length then AV.slice (idOf (vs k)) 0 (h+1) 1 false else .nilslice) c.bs.length) true])).length:=by simp
        generalize G++[AObj.cells (rwV (fun k=>if k<c.bs.length then AV.slice (idOf (vs k)) 0 (h+1) 1 false else .nilslice) c.bs.length) true]=G1 at mN mM' mH' hXG ⊢
        rw [List.length_append] at hXG
        have hpw:2 ^ h≤2 ^ 8:=Nat.pow_le_pow_right (by omega) (by omega)
        have hpe:=shl_one h (by omega)
        have hsf:=fun set hs=>shortF_shB (c:=c) (last:=h) (set:=set) hlt h8.2 hs
        have hof:=shOf_bst c h
        have hsn:shN c h=(shL c h (2 ^ h)).length:=rfl
        obtain⟨pw,hpwe⟩:∃ pw,pw=2 ^ h:=⟨_,rfl⟩
        rw [← hpwe] at hpe hpw hsf hof hsn
        have nb:∀ s i,s<c.bs.length→i<h+1→-1000000≤ndR c s i∧ndR c s i≤1000000:=fun s i hs hi=>by
          have a1:=ndF_bd hc hs (h:=i+1) (by omega)
          simp only [ndR];omega
        have hb:∀ k,k<c.hs.length→-1000000≤handsF c k∧handsF c k≤1000000:=fun k hk=>by
          have a3:=(hc.hok k hk).2.2
          rw [← Cv.h_eq hk] at a3
          simp only [handsF];split <;> omega
        refine e_loop (ι:={ x:Nat × AV × Heap // x.1≤pw∧IAt (X++(G1++x.2.2)) x.2.1 (if (shL c h x.1).length=0 then [] else bst c h x.1) })
          (fun x=>[(1,.ptr H.length 0),(6,.slice (H.length+2) 0 c.bs.length 1 true),(7,.slice (K.length+2) 0 c.bs.length 1 true),(8,.slice (K.length+1) 0 c.hs.length 1 true),(9,.int .i64 h),(10,.slice (X.length+G.length) 0 c.bs.length 1 true),(12,x.1.2.1),(13,.bool (decide (0<(shL c h x.1.1).length))),(14,.int .i64 x.1.1)])
          (fun x=>X++(G1++x.1.2.2)) (fun x=>pw-x.1.1) ⟨(0,.nilslice,[]),Nat.zero_le _,(AAt.nil _ _).l.r⟩ ?_ ?_
        · refine .inl ?_
          dsimp only
          simp [shL]
        · rintro⟨⟨i,bv,G2⟩,hi,hI⟩
          dsimp only at hi hI ⊢
          have hbs:∀ k,bv.sc (X.length+(G1.length+(G2.length+k)))=true:=fun k=>RAt.sc hI (by simp)
          have hbs0:bv.sc (X.length+(G1.length+G2.length))=true:=hbs 0
          by_cases hil:i<pw
          · have hil2:(i:Int)<pw:=by omega
            repeat (first|(with_reducible first|apply X1|apply X2|apply X5|apply X6|apply X8)|((with_reducible apply e_end);(simp;exact Rz))|((with_reducible apply O1);rfl;(simp (disch:=omega) [hpe,hil,hil2];exact Rz);exact Rz;(focus (first|(simp;done)|omega|(simp;omega))))|((with_reducible apply Z9);(simp (disch:=omega) [hpe,hil,hil2];exact Rz)))
            (with_reducible apply e_call);(simp;exact Rz);exact c_r2members _ i (by omega)
            rintro _ _ ⟨rfl,rfl⟩
            have hm:IAt (X++(G1++(G2++lsO (memL i 8).length (iv (memL i 8))))) (lsV (X++(G1++G2)) 1 (memL i 8).length) (memL i 8):=by
              have:=(ls_at (X++(G1++G2)) (sz:=1) (n:=(memL i 8).length) (cs:=iv (memL i 8)) (by simp [iv])).l.r
              simp only [List.append_assoc] at this
              exact this
            simp only [List.append_assoc]
            generalize lsO (memL i 8).length (iv (memL i 8))=O at hm ⊢
            generalize lsV (X++(G1++G2)) 1 (memL i 8).length=mv at hm ⊢
            have hI2:IAt (X++(G1++(G2++O))) bv (if (shL c h i).length=0 then [] else bst c h i):=by
              have:=RAt.app hI O
              simp only [List.append_assoc] at this
              exact this
            have hms:∀ k,mv.sc (X.length+(G1.length+(G2.length+(O.length+k))))=true:=fun k=>RAt.sc hm (by simp)
            have hms0:mv.sc (X.length+(G1.length+(G2.length+O.length)))=true:=hms 0
            have ks:=c_r2short (X++(G1++(G2++O))) _ _ _ c.bs.length (h+1) c.hs.length (ndR c) (fun k _=>decide (k<c.hs.length) && (c.h k).cold) (handsF c) i (by omega) (by omega) h8.2 (by omega) (by simpa only [List.append_assoc] using mN.app (G2++O)) nb (by simpa only [List.append_assoc] using mM'.app (G2++O)) (by simpa only [List.append_assoc] using mH'.app (G2++O)) hb
            rw [hsf i hil] at ks
            have hml:=memL_le i 8
            repeat (first|(with_reducible first|apply X1|apply X2|apply X8)|((with_reducible apply e_end);(simp;exact Rz))|((with_reducible apply O1);rfl;(simp (disch:=omega);exact Rz);exact Rz;(focus (first|(simp;done)|omega|(simp;omega)))))
            (with_reducible apply e_call);(simp;exact Rz);exact ks
            rintro _ _ ⟨rfl,rfl⟩
            cases hsb:shB c h i with
            | false =>
              repeat (first|(with_reducible first|apply X2|apply X5|apply X8|apply Y2)|((with_reducible apply e_end);(simp;exact Rz))|((with_reducible apply O1);rfl;(simp (disch:=omega);exact Rz);exact Rz;(focus (first|(simp;done)|omega|(simp;omega))))|((with_reducible apply Z1);(simp (disch:=omega);exact Rz))|((with_reducible first|apply W1|apply W3);(simp (disch:=omega);exact Rz)))
              refine q_again ⟨(i+1,bv,G2++O),hil,?_⟩ (by dsimp only;omega) (.inl (by simp [shL_skip hsb]))
              dsimp only
              rw [shL_skip hsb,bst_skip hsb];exact hI2
            | true =>
              have hln:(shL c h (i+1)).length=(shL c h i).length+1:=by rw [shL_add hsb];simp
              by_cases hf:0<(shL c h i).length
              · rw [if_neg (by omega)] at hI2
                have kb:=c_r2before _ mv bv (memL i 8) (bst c h i) hm hI2 (by omega)
                have hba:=bst_add hsb hf
                repeat (first|((with_reducible apply O1);rfl;(simp (disch:=omega) [hf];exact Rz);exact Rz;(focus (first|(simp;done)|omega|(simp;omega))))|((with_reducible apply Z7);(simp (disch:=omega) [hf];exact Rz)))
                (with_reducible apply e_call);(simp;exact Rz);exact kb
                rintro _ _ ⟨rfl,rfl⟩
                cases hfw:fewF (memL i 8) (bst c h i) with
                | true =>
                  rw [hfw,if_pos rfl] at hba
                  repeat (first|(with_reducible first|apply X2|apply X8|apply Y2)|((with_reducible apply e_end);(simp;exact Rz))|((with_reducible apply O1);rfl;(simp (disch:=omega);exact Rz);exact Rz;(focus (first|(simp;done)|omega|(simp;omega))))|((with_reducible first|apply Z7|apply Z9);(simp (disch:=omega);exact Rz)))
                  refine q_again ⟨(i+1,mv,G2++O),hil,?_⟩ (by dsimp only;omega) (.inl (by simp [hln]))
                  dsimp only
                  rw [if_neg (by omega),hba];exact hm
                | false =>
                  rw [hfw,if_neg (by simp)] at hba
                  repeat (first|(with_reducible first|apply X2|apply X5|apply X8|apply Y2)|((with_reducible apply e_end);(simp;exact Rz))|((with_reducible apply O1);rfl;(simp (disch:=omega);exact Rz);exact Rz;(focus (first|(simp;done)|omega|(simp;omega))))|((with_reducible apply Z7);(simp (disch:=omega);exact Rz))|((with_reducible apply W3);(simp (disch:=omega);exact Rz)))
                  refine q_again ⟨(i+1,bv,G2++O),hil,?_⟩ (by dsimp only;omega) (.inl (by simp [hln,hf]))
                  dsimp only
                  rw [if_neg (by omega),hba];exact hI2
              · have hbn:=bst_new hsb (by omega)
                repeat (first|(with_reducible first|apply X2|apply X8|apply Y2)|((with_reducible apply e_end);(simp;exact Rz))|((with_reducible apply O1);rfl;(simp (disch:=omega) [hf];exact Rz);exact Rz;(focus (first|(simp;done)|omega|(simp;omega))))|((with_reducible first|apply Z7|apply Z9);(simp (disch:=omega) [hf];exact Rz))|((with_reducible apply Z2);(simp (disch:=omega) [hf];exact Rz)))
                refine q_again ⟨(i+1,mv,G2++O),hil,?_⟩ (by dsimp only;omega) (.inl (by simp [hln]))
                dsimp only
                rw [if_neg (by omega),hbn];exact hm
          · have hil2:¬ (i:Int)<pw:=by omega
            obtain rfl:i=pw:=by omega
            rw [← hsn] at hI ⊢
            by_cases hf:0<shN c h
            · obtain⟨G',hG'⟩:=ePre
              rw [if_neg (by omega),← hof] at hI
              repeat (first|(with_reducible first|apply X1|apply X2|apply X3|apply X4|apply X8|apply X9|apply Y1|apply Y3|apply Y4|apply Y5|apply Y6)|((with_reducible apply e_end);(simp;exact Rz))|((with_reducible apply O1);rfl;(simp (disch:=omega) [hpe,hil,hil2,hf];exact Rz);exact Rz;(focus (first|(simp;done)|omega|(simp;omega))))|((with_reducible apply Z9);(simp (disch:=omega) [hpe,hil,hil2,hf];exact Rz))|((with_reducible apply W3);(simp (disch:=omega) [hpe,hil,hil2,hf];exact Rz)))
              exact q_stay (.inr rfl) (by simp;exact Rz) (.inl ⟨h,bv,G'++(G1++G2),hlt,hz,hf,rfl,by rw [hG',List.append_assoc],hI⟩)
            · repeat (first|(with_reducible first|apply X1|apply X2|apply X4|apply X5|apply X8|apply Y1|apply Y2|apply Y4|apply Y6)|((with_reducible apply e_end);(simp;exact Rz))|((with_reducible apply O1);rfl;(simp (disch:=omega) [hpe,hil,hil2,hf];exact Rz);exact Rz;(focus (first|(simp;done)|omega|(simp;omega))))|((with_reducible apply W3);(simp (disch:=omega) [hpe,hil,hil2,hf];exact Rz)))
              refine q_again ⟨(h+1,G1++G2),hlt,fun k hk=>?_⟩ (by dsimp only;omega) (.inl (by simp))
              by_cases e:k=h
              · rw [e];omega
              · exact hz k (by omega)
end Go.Proofs
