/- Several texts as one. -/
import Derived.Test.YtdocpfbfchaekaaGreatSF
/- Scale: the totals of scales,one by one. -/
namespace Go.Proofs
open Go.Abs
attribute [local simp] AOp.den AOpd.ev lk cellsOf rd_new rd_new0 rd_zero rd_succ wr_new wr_new0 wr_zero wr_succ splice fillA binA scal sliceCells List.length_append argsT AV.sc scL AObj.sc resV getAll AR.get AOp.slots opdSlots opdsSlots partSlots eqAt at_new0 at_new set_new0 set_new wrap64
set_option linter.unusedSimpArgs false
set_option linter.unusedVariables false
theorem Cano.len_le:∀ {B:List (Int × Int)} {lo hi:Int},Cano B→(∀ b∈B,lo≤b.1∧b.2≤hi)→B.length≤(hi-lo+1).toNat
  | [],_,_,_,_=>by simp
  | x :: l,lo,hi,h,hb=>by
    have hx:=hb x (by simp)
    have hxl:=h.le x (by simp)
    have ih:=Cano.len_le (B:=l) (lo:=lo+1) (hi:=hi) h.tail fun b hbm=>by
      have h1:=hb b (List.mem_cons_of_mem _ hbm)
      have h2:=(List.pairwise_cons.1 h.inc).1 b hbm
      omega
    simp only [List.length_cons]
    omega
theorem tog_bd {A B:List (Int × Int)} (hA:∀ a∈A,a.1≤a.2) (hB:Cano B) {l1 u1 l2 u2:Int} (h1:∀ a∈A,l1≤a.1∧a.2≤u1) (h2:∀ b∈B,l2≤b.1∧b.2≤u2):∀ x∈togL A B,l1+l2≤x.1∧x.1≤x.2∧x.2≤u1+u2:=fun x hx=>by
  have hle:=(tog_cano A B).le x hx
  obtain⟨a,ha,b,hb,e1,e2⟩:=(tog_in hA hB x.1).1 ⟨x,hx,Int.le_refl _,hle⟩
  obtain⟨a',ha',b',hb',e3,e4⟩:=(tog_in hA hB x.2).1 ⟨x,hx,hle,Int.le_refl _⟩
  have q1:=h1 a ha
  have q2:=h2 b hb
  have q3:=h1 a' ha'
  have q4:=h2 b' hb'
  omega
def smS (s:Sc) (ns:List Int):List (Int × Int):=(trs s ns).map (smP s ns)
theorem smS_bd {s:Sc} (hs:s.ok) {ns:List Int} (hn:∀ n∈ns,-2000000≤n∧n≤2000000):∀ x∈trs s ns,0≤(smP s ns x).1∧(smP s ns x).1≤(smP s ns x).2∧(smP s ns x).2≤1000000 * ns.length:=fun x hx=>by
  have h:=(mem_trs hs).1 hx
  have hb:=hs.b
  simp only [Sc.built] at hb
  have h1:=h.1.2
  exact sm_bd (s:=s) hb.2.1 (by omega) (by omega) hn ns.length (Nat.le_refl _) (okW_iff.1 h.2)
def alT (s:Sc) (ns:List Int):List (Int × Int):=togL (smS s ns) [(0,0)]
theorem cano00:Cano [((0:Int),(0:Int))]:=⟨by simp,by simp⟩
theorem alT_bd {s:Sc} (hs:s.ok) {ns:List Int} (hn:∀ n∈ns,-2000000≤n∧n≤2000000):∀ x∈alT s ns,0≤x.1∧x.1≤x.2∧x.2≤1000000 * ns.length:=fun x hx=>by
  have hA:∀ a∈smS s ns,0≤a.1∧a.1≤a.2∧a.2≤1000000 * ns.length:=fun a ha=>by
    obtain⟨y,hy,rfl⟩:=List.mem_map.1 ha
    exact smS_bd hs hn y hy
  have:=tog_bd (l1:=0) (u1:=1000000 * ns.length) (l2:=0) (u2:=0) (fun a ha=>(hA a ha).2.1) cano00 (fun a ha=>⟨(hA a ha).1,(hA a ha).2.2⟩) (fun b hb=>by rw [List.mem_singleton] at hb;subst hb;exact⟨Int.le_refl _,Int.le_refl _⟩) x hx
  omega
theorem c_truths (H:Heap) (w:List AV) (hw:∃ a0 a1 a2 a3 a4 a5 a6 a7 a8 a9,w=[a0,a1,a2,a3,a4,a5,a6,a7,a8,a9]) (hsw:scL H.length w=true) (s:Sc) (tid toff:Nat) (ex:Bool) (ht:tid<H.length) :
    ACalls Try.prog F.scale_weighing_truths [.agg w,.agg (s.av tid toff ex)] H (fun v h'=>v=.fn (.func F.scale_weighing_truths_1) [] [.ptr (H.length+1) 0,.ptr H.length 0]∧h'=H++[.cells w true,.cells (s.av tid toff ex) true]):=by
  obtain⟨a0,a1,a2,a3,a4,a5,a6,a7,a8,a9,rfl⟩:=hw
  simp only [Sc.av]
  refine acalls_of ok_scale_weighing_truths rfl fun hcl=>?_
  unfold ac_scale_weighing_truths zo
  simp only [argsT,Nat.zero_add,Nat.reduceAdd]
  repeat (first|(with_reducible first|apply X1|apply X2|apply X3|apply X8)|((with_reducible apply e_end);(simp;exact Rz))|((with_reducible apply O1);rfl;(simp (disch:=omega);exact Rz);exact Rz;(focus (first|(simp;done)|omega|(simp;omega)))))
  refine q_stay (.inr rfl) (by simp;exact Rz) ⟨rfl,rfl⟩
theorem RAt.of_cells {h:Heap} {sz id:Nat} {cs:List AV} {n:Nat} {b ex:Bool} (hh:h[id]?=some (.cells cs b)) (hc:cs.length=n * sz):RAt h sz (.slice id 0 n sz ex) cs n:=⟨hc,.inr ⟨id,0,ex,rfl,rd_full hh hc⟩⟩
set_option maxHeartbeats 4000000 in
theorem c_add (X:Heap) (B U:List SP) (id off:Nat) (ex2:Bool) (g:Gr) (lv rv kv:AV) (mid wp scp lsp lid i:Nat) (lex:Bool) (sv x1:AV) (cs:List AV) (T1:List (Int × Int))
    (hw:rd X wp 0 10=some (wV (.slice id off B.length 7 ex2) g lv rv kv mid)) (hwsc:scL X.length (wV (.slice id off B.length 7 ex2) g lv rv kv mid)=true) (hW:WAt X B g mid)
    (hsc:rd X scp 0 1=some [sv]) (hsv:AAt X 7 sv (U.flatMap SP.av) U.length) (hi:i<U.length) (hU:(bAt U i).s.ok) (hUt:(bAt U i).tr X) (hne:shI g.ls (bAt U i).s.id≠[]) (hns:∀ n∈shI g.ls (bAt U i).s.id,-2000000≤n∧n≤2000000) (hls:g.ls.length≤6) (hUl:(U.length:Int)<1000000)
    (hlp:rd X lsp 0 1=some [.slice lid 0 (U.length+1) 1 lex]) (hlc:X[lid]?=some (.cells cs true)) (hcl:cs.length=U.length+1) (hx1:cs[i+1]?=some x1) (hT1:RAt X 2 x1 (pvs T1) T1.length) (hC1:Cano T1) (hB1:∀ b∈T1,0≤b.1∧b.2≤100000000) :
    ACalls Try.prog F.scale_weighing_totals_1 [.int .i64 i,.ptr wp 0,.ptr scp 0,.ptr lsp 0] X (fun _ h'=>∃ x,X.length≤h'.length∧h'[lid]?=some (.cells (cs.set i x) true)∧(∀ j,j<X.length→j≠lid→h'[j]?=X[j]?)∧RAt h' 2 x (pvs (togL (alT (bAt U i).s (shI g.ls (bAt U i).s.id)) T1)) (togL (alT (bAt U i).s (shI g.ls (bAt U i).s.id)) T1).length∧∀ q,isId x q→X.length≤q):=by
  have hwl:=rd_lt hw
  have hscl:=rd_lt hsc
  have hlpl:=rd_lt hlp
  have hll:=(List.getElem?_eq_some_iff.1 hlc).1
  obtain⟨sid,rfl⟩:∃ sid,sv=.slice sid 0 U.length 7 false:=by
    obtain⟨_,⟨_,h⟩|⟨q,_,e,_⟩⟩:=hsv
    · omega
    · exact⟨q,e⟩
  have hsl:sid<X.length:=hsv.l.lt rfl
  have hrow:rd X sid (i * 7) 7=some (bAt U i).av:=by
    obtain⟨h1,⟨_,h⟩|⟨q,_,e,hh⟩⟩:=hsv
    · omega
    · cases e
      have:=rd_row (f:=SP.av) (k:=7) SP.av_length (H:=X) (id:=sid) (off:=0) (l:=U) (rd_full hh h1) hi
      rw [Nat.zero_add,← bAt_eq hi] at this
      exact this
  have htl:=rd_lt hUt.1
  have hm0:i * 7+7≤U.length * 7:=by omega
  have hilt:(i:Int)<U.length:=by omega
  generalize hs:(bAt U i).s=s at *
  have kt:=c_truths X (wV (.slice id off B.length 7 ex2) g lv rv kv mid) ⟨_,_,_,_,_,_,_,_,_,_,rfl⟩ hwsc s (bAt U i).tid (bAt U i).toff (bAt U i).ex htl
  have hav:(bAt U i).av=s.av (bAt U i).tid (bAt U i).toff (bAt U i).ex:=by rw [← hs];rfl
  rw [hav] at hrow
  refine acalls_of ok_scale_weighing_totals_1 rfl fun hcl=>?_
  unfold ac_scale_weighing_totals_1 zo
  simp only [argsT,Nat.zero_add,Nat.reduceAdd]
  repeat (first|(with_reducible first|apply X1|apply Y9)|((first|((with_reducible apply P1);rfl)|((with_reducible apply P2);rfl));(simp (disch:=omega) [hw,hsc,hrow,hilt,hi];exact Rz);exact Rz;(focus (first|(simp;done)|omega|(simp;omega)))))
  have hwsc':scL X.length (wV (.slice id off B.length 7 ex2) g lv rv kv mid)=true:=hwsc
  have hss:scL X.length (s.av (bAt U i).tid (bAt U i).toff (bAt U i).ex)=true:=by simp [Sc.av,scL,AV.sc];omega
  (with_reducible apply d_call_);(simp;exact Rz);exact kt;(focus (simp [hwsc',hss]))
  skip
  obtain⟨o,f,m3,m4,m5,m6⟩:=hW.mp
  obtain⟨nid,m7,m8⟩:=m6 _ hne
  have hml:=(List.getElem?_eq_some_iff.1 m3).1
  have hnl:=rd_lt m8
  have hsq:(X++[AObj.cells (wV (.slice id off B.length 7 ex2) g lv rv kv mid) true,AObj.cells (s.av (bAt U i).tid (bAt U i).toff (bAt U i).ex) true])[X.length+1]?=some (.cells (s.av (bAt U i).tid (bAt U i).toff (bAt U i).ex) true):=by simp
  have hwq:(X++[AObj.cells (wV (.slice id off B.length 7 ex2) g lv rv kv mid) true,AObj.cells (s.av (bAt U i).tid (bAt U i).toff (bAt U i).ex) true])[X.length]?=some (.cells (wV (.slice id off B.length 7 ex2) g lv rv kv mid) true):=by simp
  have hF:TrF (X++[AObj.cells (wV (.slice id off B.length 7 ex2) g lv rv kv mid) true,AObj.cells (s.av (bAt U i).tid (bAt U i).toff (bAt U i).ex) true]).length (X.length+1) X.length (bAt U i).tid (bAt U i).toff (bAt U i).ex s (shI g.ls s.id) (X++[AObj.cells (wV (.slice id off B.length 7 ex2) g lv rv kv mid) true,AObj.cells (s.av (bAt U i).tid (bAt U i).toff (bAt U i).ex) true]) :=
    ⟨Nat.le_refl _,by simp,rd_full hsq rfl,by simp;omega,by rw [rd_old _ htl];rw [← hs];exact hUt.1,by simp,mid,o,f,nid,0,false,by
      have:=rd_sub' (rd_full (n:=10) hwq rfl) 9 1 (by omega)
      simp [wV,Gr.av],by simp;omega,at_oldI _ m3,m4,m7,by simp;omega,by rw [rd_old _ hnl];exact m8⟩
  have hshl:=shN_len g.ls g.ls.length s.id
  have hshl2:(shI g.ls s.id).length≤6:=by have:(shI g.ls s.id).length≤g.ls.length:=hshl;omega
  have kC:=c_CollT hU hF hns (by omega)
  (with_reducible apply d_call_);(simp;exact Rz);exact kC;(focus (simp))
  generalize hX1:X++[AObj.cells (wV (.slice id off B.length 7 ex2) g lv rv kv mid) true,AObj.cells (s.av (bAt U i).tid (bAt U i).toff (bAt U i).ex) true]=X1 at *
  repeat ((first|((with_reducible apply P1);rfl)|((with_reducible apply P3);rfl));(simp (disch:=omega);exact Rz);exact Rz;(focus (first|(simp;done)|omega|(simp;omega))))
  have hXX:X.length≤X1.length:=by rw [← hX1];simp
  have hXo:∀ j,j<X.length→X1[j]?=X[j]?:=fun j hj=>by rw [← hX1];exact List.getElem?_append_left hj
  have hb:=hU.b
  simp only [Sc.built] at hb
  have hgs:=gs_eq hU
  have htr1:=trT_len hU (shI g.ls s.id) (TG s s.gs)
  have htr2:=TG_len s s.gs
  have htr3:(trs s (shI g.ls s.id)).length≤10000000:=by simp only [trs];omega
  have hls1:=ls_at X1 (sz:=4) (n:=(trs s (shI g.ls s.id)).length) (cs:=rowsT s (shI g.ls s.id) (trs s (shI g.ls s.id))) (by
    have h:∀ L:List (Int × Int),(rowsT s (shI g.ls s.id) L).length=L.length * 4:=fun L=>by
      induction L with
      | nil=>rfl
      | cons x L ih=>simp only [rowsT,List.flatMap_cons,List.length_append,List.length_cons,rowT_len] at ih ⊢;rw [ih];omega
    exact h _)
  have hsc1:=ls_sc X1 4 (trs s (shI g.ls s.id)).length (rowsT s (shI g.ls s.id) (trs s (shI g.ls s.id)))
  have hbd:=smS_bd hU hns
  generalize lsV X1 4 (trs s (shI g.ls s.id)).length=tv at *
  generalize lsO (trs s (shI g.ls s.id)).length (rowsT s (shI g.ls s.id) (trs s (shI g.ls s.id)))=O1 at *
  have kT:=c_togT (X1++(O1++[.cells [.int .i64 0,.int .i64 0] true])) s (shI g.ls s.id) (trs s (shI g.ls s.id)) [(0,0)] tv (.slice (X1.length+O1.length) 0 1 2 true) (by
    have:=(hls1.app [.cells [.int .i64 0,.int .i64 0] true]).l.r
    simpa [rowsT] using this) (RAt.of_cells (b:=true) (by simp [pvs,pv]) rfl) (fun x hx=>by have:=hbd x hx;omega) htr3 cano00 (fun b hb=>by rw [List.mem_singleton] at hb;subst hb;exact⟨Int.le_refl _,by omega⟩) (by simp)
  have tsc:tv.sc (X1.length+(O1.length+1))=true:=(hls1.app [.cells [.int .i64 0,.int .i64 0] true]).l.sc (by simp <;> omega)
  (with_reducible apply d_call_);(simp;exact Rz);exact kT;(focus (simp [tsc]))
  have eA:togL (List.map (smP s (shI g.ls s.id)) (trs s (shI g.ls s.id))) [(0,0)]=alT s (shI g.ls s.id):=rfl
  rw [eA]
  have hls2:=ls_at (X1++(O1++[.cells [.int .i64 0,.int .i64 0] true])) (pvs_len (alT s (shI g.ls s.id)))
  have hsc2:=ls_sc (X1++(O1++[.cells [.int .i64 0,.int .i64 0] true])) 2 (alT s (shI g.ls s.id)).length (pvs (alT s (shI g.ls s.id)))
  have hYk:∀ j,j<X.length→(X1++(O1++[.cells [.int .i64 0,.int .i64 0] true])++lsO (alT s (shI g.ls s.id)).length (pvs (alT s (shI g.ls s.id))))[j]?=X[j]?:=fun j hj=>by
    rw [List.append_assoc,List.getElem?_append_left (by omega)];exact hXo j hj
  have hYl:X.length≤(X1++(O1++[AObj.cells [.int .i64 0,.int .i64 0] true])++lsO (alT s (shI g.ls s.id)).length (pvs (alT s (shI g.ls s.id)))).length:=by simp;omega
  generalize lsV (X1++(O1++[.cells [.int .i64 0,.int .i64 0] true])) 2 (alT s (shI g.ls s.id)).length=av at *
  generalize (X1++(O1++[.cells [.int .i64 0,.int .i64 0] true])++lsO (alT s (shI g.ls s.id)).length (pvs (alT s (shI g.ls s.id))))=Y at *
  clear kC kT hls1 hsc1 tsc hF hsq hwq kt
  have ylp:rd Y lsp 0 1=some [.slice lid 0 (U.length+1) 1 lex]:=by rw [rd_cong (hYk _ hlpl)];exact hlp
  have ylc:Y[lid]?=some (.cells cs true):=by rw [hYk _ hll];exact hlc
  have yx1:rd Y lid (i+1) 1=some [x1]:=by
    rw [rd_cellsK ylc (by omega)]
    obtain⟨hlt,he⟩:=List.getElem?_eq_some_iff.1 hx1
    rw [List.drop_eq_getElem_cons hlt,he];rfl
  have yT1:RAt Y 2 x1 (pvs T1) T1.length:=RAt.keep hT1 fun q hq=>hYk q (RAt.lt hT1 hq)
  have i0:(0:Int)≤(i:Int)+1:=by omega
  have i1:(i:Int)+1<(U.length:Int)+1:=by omega
  have i2:((i:Int)+1).toNat=i+1:=by omega
  have i3:(i:Int)<(U.length:Int)+1:=by omega
  repeat (first|(with_reducible first|apply X8|apply Y9)|((with_reducible apply d_end);(simp;exact Rz))|((first|((with_reducible apply P1);rfl)|((with_reducible apply P2);rfl));(simp (disch:=omega) [ylp,yx1,i0,i1,i2,i3];exact Rz);exact Rz;(focus (first|(simp;done)|omega|(simp;omega)))))
  have hab:=alT_bd hU hns
  have hal:(alT s (shI g.ls s.id)).length≤1000000 * 6+1:=by
    have:=Cano.len_le (lo:=0) (hi:=6000000) (tog_cano (smS s (shI g.ls s.id)) [(0,0)]) (fun b hb=>by have:=hab b hb;omega)
    simp only [alT];omega
  have hTl:T1.length≤1000000000:=by
    have:=Cano.len_le (lo:=0) (hi:=100000000) hC1 hB1
    omega
  have kS:=c_togS Y (alT s (shI g.ls s.id)) T1 av x1 hls2.l.r yT1 (fun x hx=>by have:=hab x hx;simp only [idP];omega) (by omega) hC1 hB1 hTl
  rw [map_idP] at kS
  have asc:av.sc Y.length=true:=hls2.l.sc (Nat.le_refl _)
  have xsc:x1.sc Y.length=true:=RAt.sc yT1 (Nat.le_refl _)
  (with_reducible apply d_call_);(simp;exact Rz);exact kS;(focus (simp [asc,xsc]))
  have hls3:=ls_at Y (pvs_len (togL (alT s (shI g.ls s.id)) T1))
  have hsc3:=ls_sc Y 2 (togL (alT s (shI g.ls s.id)) T1).length (pvs (togL (alT s (shI g.ls s.id)) T1))
  have hids3:∀ q,isId (lsV Y 2 (togL (alT s (shI g.ls s.id)) T1).length) q→Y.length≤q:=fun q hq=>by
    unfold lsV at hq
    split at hq
    · exact hq.elim
    · have:Y.length=q:=hq
      omega
  have hZk:∀ j,j<X.length→(Y++lsO (togL (alT s (shI g.ls s.id)) T1).length (pvs (togL (alT s (shI g.ls s.id)) T1)))[j]?=X[j]?:=fun j hj=>by
    rw [List.getElem?_append_left (by omega)];exact hYk j hj
  have hZl:X.length≤(Y++lsO (togL (alT s (shI g.ls s.id)) T1).length (pvs (togL (alT s (shI g.ls s.id)) T1))).length:=by simp;omega
  have zlc:(Y++lsO (togL (alT s (shI g.ls s.id)) T1).length (pvs (togL (alT s (shI g.ls s.id)) T1)))[lid]?=some (.cells cs true):=at_oldI _ ylc
  have hrs:Abs.scal (lsV Y 2 (togL (alT s (shI g.ls s.id)) T1).length)=true:=by unfold lsV;split <;> rfl
  have hscz:(lsV Y 2 (togL (alT s (shI g.ls s.id)) T1).length).sc (Y++lsO (togL (alT s (shI g.ls s.id)) T1).length (pvs (togL (alT s (shI g.ls s.id)) T1))).length=true:=by simpa using hsc3
  have hids4:∀ q,isId (lsV Y 2 (togL (alT s (shI g.ls s.id)) T1).length) q→X.length≤q∧q≠lid:=fun q hq=>by have:=hids3 q hq;omega
  clear kS hsc3 hids3
  generalize lsV Y 2 (togL (alT s (shI g.ls s.id)) T1).length=rv1 at *
  generalize (Y++lsO (togL (alT s (shI g.ls s.id)) T1).length (pvs (togL (alT s (shI g.ls s.id)) T1)))=Z at *
  have hw2:wr Z lid i [rv1]=some (Z.set lid (.cells (cs.set i rv1) true)):=by
    rw [wr_at zlc (by simp;omega)]
    have hil:i<cs.length:=by omega
    have:splice cs i [rv1]=cs.set i rv1:=by
      rw [List.set_eq_take_append_cons_drop,if_pos hil];simp [splice]
    rw [this]
  repeat ((with_reducible apply P1);rfl;(simp (disch:=omega) [i3];exact Rz);exact Rz;(focus (first|(simp;done)|omega|(simp;omega))))
  have hco:cellsOf rv1=some [rv1]:=by
    obtain⟨_,⟨rfl,_⟩|⟨_,_,rfl,_⟩⟩:=hls3 <;> rfl
  simp only [cellsOf] at hco
  (with_reducible apply P4);rfl;(simp [hco,hw2];exact Rz);exact Rz
  · refine⟨hrs,by simp [hscz];have:=(List.getElem?_eq_some_iff.1 zlc).1;omega,by simp⟩
  repeat ((with_reducible apply d_end);(simp;exact Rz))
  refine q_stay (v:=.tuple []) (.inl rfl) (by simp;exact Rz) ⟨rv1,by simp;omega,?_,?_,?_,fun q hq=>(hids4 q hq).1⟩
  · rw [List.getElem?_set,if_pos rfl,if_pos (List.getElem?_eq_some_iff.1 zlc).1]
  · intro j hj hne
    rw [List.getElem?_set,if_neg (by omega)];exact hZk j hj
  · refine RAt.keep hls3.l.r fun q hq=>?_
    rw [List.getElem?_set,if_neg (fun h=>(hids4 q hq).2 h.symm)]
def totF (ls:List Ld) (a:Int):List SP→List (Int × Int)
  | []=>[(a,a)]
  | p :: r=>togL (alT p.s (shI ls p.s.id)) (totF ls a r)
theorem totF_cano (ls:List Ld) (a:Int):∀ U,Cano (totF ls a U)
  | []=>⟨by simp [totF],by simp [totF]⟩
  | _ :: _=>tog_cano _ _
theorem totF_bd {ls:List Ld} {a:Int} (ha:0≤a) (hl:ls.length≤6):∀ {U:List SP},(∀ p∈U,p.s.ok∧∀ n∈shI ls p.s.id,-2000000≤n∧n≤2000000)→∀ x∈totF ls a U,0≤x.1∧x.1≤x.2∧x.2≤6000000 * U.length+a
  | [],_,x,hx=>by simp only [totF,List.mem_singleton] at hx;subst hx;simp;omega
  | p :: U,h,x,hx=>by
    have h1:=h p (by simp)
    have ih:=totF_bd ha hl (U:=U) fun q hq=>h q (List.mem_cons_of_mem _ hq)
    have hsl:=shN_len ls ls.length p.s.id
    have hsl2:(shI ls p.s.id).length≤6:=by have:(shI ls p.s.id).length≤ls.length:=hsl;omega
    have hab:=alT_bd h1.1 h1.2
    have:=tog_bd (l1:=0) (u1:=6000000) (l2:=0) (u2:=6000000 * U.length+a) (fun y hy=>(hab y hy).2.1) (totF_cano ls a U) (fun y hy=>by have:=hab y hy;omega) (fun y hy=>by have:=ih y hy;omega) x hx
    simp only [List.length_cons]
    omega
set_option maxHeartbeats 1000000 in
theorem c_back1 (H:Heap) (y bp:Nat) (sv:AV) (U:List SP) (hn:(U.length:Int)<1000000) (Inv:Nat→Heap→Prop)
    (hr:∀ k X,Inv k X→y<X.length∧rd X bp 0 1=some [sv]∧AAt X 7 sv (U.flatMap SP.av) U.length)
    (hy:∀ k X,k<U.length→Inv (k+1) X→AYields Try.prog y [.int .i64 k,.agg (bAt U k).av] X (fun v h'=>v=.bool true∧Inv k h')) (h0:Inv U.length H) :
    ACalls Try.prog F.slices_Backward_api_Scale_api_Scale_1 [.yield y,.ptr bp 0] H (fun _ h'=>Inv 0 h'):=by
  obtain⟨yl,r1,r2⟩:=hr _ _ h0
  have hbl:=rd_lt r1
  refine acalls_of ok_slices_Backward_api_Scale_api_Scale_1 rfl fun hcl=>?_
  unfold ac_slices_Backward_api_Scale_api_Scale_1 zo
  simp only [argsT,Nat.zero_add,Nat.reduceAdd]
  repeat (first|(with_reducible first|apply X1|apply X2)|((with_reducible apply O1);rfl;(simp (disch:=omega) [r1];exact Rz);exact Rz;(focus (first|(simp;done)|omega|(simp;omega)))))
  refine O1 rfl (RAt.len r2.l.r _ (by simp)) Rz trivial ?_
  repeat (first|(with_reducible first|apply X6|apply X8)|((with_reducible apply e_end);(simp;exact Rz))|((with_reducible apply O1);rfl;(simp (disch:=omega);exact Rz);exact Rz;(focus (first|(simp;done)|omega|(simp;omega)))))
  refine e_loop (ι:={ x:Nat × Heap // x.1≤U.length∧Inv x.1 x.2 }) (fun x=>[(0,.yield y),(1,.ptr bp 0),(3,.int .i64 ((x.1.1:Int)-1))]) (fun x=>x.1.2) (fun x=>x.1.1) ⟨(U.length,H),by simp,h0⟩ ?_ ?_
  · exact .inl (by simp)
  · rintro⟨⟨k,X⟩,hk,hI⟩
    dsimp only at hk hI ⊢
    obtain⟨yl,r1,r2⟩:=hr _ _ hI
    have hbl:=rd_lt r1
    cases k with
    | zero =>
      repeat (first|(with_reducible first|apply X1|apply X2|apply X4|apply X8|apply Y1|apply Y4|apply Y6)|((with_reducible apply e_end);(simp;exact Rz))|((with_reducible apply O1);rfl;(simp (disch:=omega);exact Rz);exact Rz;(focus (first|(simp;done)|omega|(simp;omega))))|((with_reducible apply W3);(simp (disch:=omega);exact Rz)))
      exact q_stay (v:=.tuple []) (.inl rfl) (by simp;exact Rz) hI
    | succ k =>
      obtain⟨sid,rfl⟩:∃ sid,sv=.slice sid 0 U.length 7 false:=by
        obtain⟨_,⟨_,h⟩|⟨q,_,e,_⟩⟩:=r2
        · omega
        · exact⟨q,e⟩
      have hrow:rd X sid (k * 7) 7=some (bAt U k).av:=by
        obtain⟨h1,⟨_,h⟩|⟨q,_,e,hh⟩⟩:=r2
        · omega
        · cases e
          have:=rd_row (f:=SP.av) (k:=7) SP.av_length (H:=X) (id:=sid) (off:=0) (l:=U) (rd_full hh h1) (i:=k) (by omega)
          rw [Nat.zero_add,← bAt_eq (by omega)] at this
          exact this
      have e0:((k+1:Nat):Int)-1=k:=by omega
      have hk2:(k:Int)<U.length:=by omega
      have hk3:(k:Int)≤1000000:=by omega
      have hk4:(0:Int)≤k:=by omega
      rw [e0]
      repeat (first|(with_reducible first|apply X1|apply X2|apply X5|apply X6|apply X8)|((with_reducible apply e_end);(simp;exact Rz))|((with_reducible apply O1);rfl;(simp (disch:=omega) [r1,hrow,hk2];exact Rz);exact Rz;(focus (first|(simp;done)|omega|(simp;omega))))|((with_reducible apply Z9);(simp (disch:=omega) [r1,hrow,hk2];exact Rz)))
      (with_reducible apply e_callY);(simp;exact Rz);(simp;exact Rz);exact hy k X (by omega) hI
      rintro _ Z2 ⟨rfl,hI2⟩
      repeat (first|(with_reducible first|apply X2|apply X5|apply X8|apply Y2)|((with_reducible apply e_end);(simp;exact Rz))|((with_reducible apply O1);rfl;(simp (disch:=omega);exact Rz);exact Rz;(focus (first|(simp;done)|omega|(simp;omega))))|((with_reducible apply W3);(simp (disch:=omega);exact Rz)))
      exact q_again ⟨(k,Z2),by dsimp only;omega,hI2⟩ (by dsimp only;omega) (.inl (by simp))
theorem c_Backward (H:Heap) (v:AV) (cs:List AV) (n:Nat) (hA:AAt H 7 v cs n):ACalls Try.prog F.slices_Backward_api_Scale_api_Scale [v] H (fun r h'=>r=.fn (.func F.slices_Backward_api_Scale_api_Scale_1) [] [.ptr H.length 0]∧h'=H++[.cells [v] true]):=by
  have hs:=hA.l.sc (Nat.le_refl _)
  obtain⟨_,⟨rfl,_⟩|⟨q,_,rfl,hh⟩⟩:=hA
  · refine acalls_of ok_slices_Backward_api_Scale_api_Scale rfl fun hcl=>?_
    unfold ac_slices_Backward_api_Scale_api_Scale zo
    simp only [argsT,Nat.zero_add,Nat.reduceAdd]
    repeat (first|(with_reducible first|apply X1|apply X2|apply X3|apply X8)|((with_reducible apply e_end);(simp;exact Rz))|((with_reducible apply O1);rfl;(simp (disch:=omega);exact Rz);exact Rz;(focus (first|(simp;done)|omega|(simp;omega)))))
    refine q_stay (.inr rfl) (by simp;exact Rz) ⟨rfl,rfl⟩
  · have hq:=(List.getElem?_eq_some_iff.1 hh).1
    refine acalls_of ok_slices_Backward_api_Scale_api_Scale rfl fun hcl=>?_
    unfold ac_slices_Backward_api_Scale_api_Scale zo
    simp only [argsT,Nat.zero_add,Nat.reduceAdd]
    repeat (first|(with_reducible first|apply X1|apply X2|apply X3|apply X8)|((with_reducible apply e_end);(simp;exact Rz))|((with_reducible apply O1);rfl;(simp (disch:=omega);exact Rz);exact Rz;(focus (first|(simp;done)|omega|(simp;omega)))))
    refine q_stay (.inr rfl) (by simp;exact Rz) ⟨rfl,rfl⟩
def ttA:AC:=(.ops [⟨some 6,.mov (.t 25),none⟩] (some [5,6]))
def ttB:AC:=(.block 1 (.ops [⟨some 27,.load1 (.t 5),none⟩,⟨some 28,.mov (.t 6),none⟩,⟨some 29,.callV (.t 27) [.t 28],none⟩] (some [])))
theorem WAt.keep {Z Z2:Heap} {B:List SP} {g:Gr} {mid:Nat} (h:WAt Z B g mid) (hk:∀ j,j<Z.length→Z2[j]?=Z[j]?):WAt Z2 B g mid:=by
  obtain⟨o,f,a,b,c,d⟩:=h.mp
  exact⟨o,f,by rw [hk _ (List.getElem?_eq_some_iff.1 a).1];exact a,b,c,fun id h=>by obtain⟨nid,e1,e2⟩:=d id h;exact⟨nid,e1,by rw [rd_cong (hk _ (rd_lt e2))];exact e2⟩⟩
structure TotK (H K:Heap) (B U:List SP) (id off:Nat) (ex2:Bool) (g:Gr) (lv rv kv:AV) (mid wp scp lsp lid fp bp:Nat) (sv:AV):Prop where
  kH:∀ j,j<H.length→K[j]?=H[j]?
  kl:H.length≤K.length
  w:rd K wp 0 10=some (wV (.slice id off B.length 7 ex2) g lv rv kv mid)
  wsc:∀ m,scL (H.length+m) (wV (.slice id off B.length 7 ex2) g lv rv kv mid)=true
  sc:rd K scp 0 1=some [sv]
  ls:rd K lsp 0 1=some [.slice lid 0 (U.length+1) 1 true]
  f:rd K fp 0 1=some [.fn (.func F.scale_weighing_totals_1) [] [.ptr wp 0,.ptr scp 0,.ptr lsp 0]]
  b:rd K bp 0 1=some [sv]
  sa:AAt K 7 sv (U.flatMap SP.av) U.length
  lb:H.length≤lid∧lid<K.length
  ne:wp≠lid∧scp≠lid∧lsp≠lid∧fp≠lid∧bp≠lid∧¬ isId sv lid
  W:WAt H B g mid
  U4:U.length≤4
  Um:∀ p∈U,p.s.ok∧p.tr H∧shI g.ls p.s.id≠[]∧∀ n∈shI g.ls p.s.id,-2000000≤n∧n≤2000000
  ls6:g.ls.length≤6
  ad:0≤g.added∧g.added≤1000000
def ttT (scp lsp fp bp:Nat):List (Nat × AV):=[(2,.nilslice),(4,.ptr lsp 0),(5,.ptr fp 0),(24,.fn (.func F.slices_Backward_api_Scale_api_Scale_1) [] [.ptr bp 0])]
def ttO (scp lsp fp bp:Nat) (ph:Phase):AObj:=.other (.loop (ttT scp lsp fp bp) [25,26] ttA ttB ph)
def InvB (H K:Heap) (U:List SP) (g:Gr) (scp lsp lid fp bp:Nat) (k:Nat) (X:Heap):Prop :=
  K.length+1≤X.length∧(∀ j,j<K.length→j≠lid→X[j]?=K[j]?)∧X[K.length]?=some (ttO scp lsp fp bp .ready)∧∃ cs,X[lid]?=some (.cells cs true)∧cs.length=U.length+1∧∀ j,k≤j→j≤U.length→∃ x,cs[j]?=some x∧RAt X 2 x (pvs (totF g.ls g.added (U.drop j))) (totF g.ls g.added (U.drop j)).length∧∀ q,isId x q→H.length≤q∧q≠lid∧q≠K.length
set_option maxHeartbeats 4000000 in
theorem y_tot {H K:Heap} {B U:List SP} {id off:Nat} {ex2:Bool} {g:Gr} {lv rv kv:AV} {mid wp scp lsp lid fp bp:Nat} {sv:AV} (hK:TotK H K B U id off ex2 g lv rv kv mid wp scp lsp lid fp bp sv) (k:Nat) (X:Heap) (hk:k<U.length) (hI:InvB H K U g scp lsp lid fp bp (k+1) X) :
    AYields Try.prog K.length [.int .i64 k,.agg (bAt U k).av] X (fun v h'=>v=.bool true∧InvB H K U g scp lsp lid fp bp k h'):=by
  obtain⟨hX,hkp,hlo,cs,hc1,hc2,hc3⟩:=hI
  obtain⟨n1,n2,n3,n4,n5,n6⟩:=hK.ne
  have hu4:=hK.U4
  have hUk:=hK.Um _ (bAt_mem hk)
  obtain⟨x1,q1,q2,q3⟩:=hc3 (k+1) (by omega) (by omega)
  refine y_of (t:=ttT scp lsp fp bp) (ps:=[25,26]) (a:=ttA) (b:=ttB) hlo rfl fun hcl=>?_
  unfold ttA
  simp only [roundT,ttT,List.zip_cons_cons,List.zip_nil_left,List.foldl_cons,List.foldl_nil,List.zip_nil_right]
  repeat (first|(with_reducible apply X2)|((with_reducible apply e_end);(simp;exact Rz))|((with_reducible apply O1);rfl;(simp (disch:=omega);exact Rz);exact Rz;(focus (first|(simp;done)|omega|(simp;omega)))))
  refine q_begin (tt:=ttT scp lsp fp bp) (ps:=[25,26]) (a':=ttA) (b':=ttB) (h2:=X.set K.length (ttO scp lsp fp bp .busy)) (by rw [hlo];exact Rz) Rz ?_
  have yl:(X.set K.length (ttO scp lsp fp bp .busy)).length=X.length:=List.length_set
  have hlidl:=hK.lb
  have ykp:∀ j,j<K.length→j≠lid→(X.set K.length (ttO scp lsp fp bp .busy))[j]?=K[j]?:=fun j hj hne=>by rw [List.getElem?_set,if_neg (by omega)];exact hkp j hj hne
  have ylo:(X.set K.length (ttO scp lsp fp bp .busy))[K.length]?=some (ttO scp lsp fp bp .busy):=by rw [List.getElem?_set,if_pos rfl,if_pos (by omega)]
  have yc1:(X.set K.length (ttO scp lsp fp bp .busy))[lid]?=some (.cells cs true):=by rw [List.getElem?_set,if_neg (by omega)];exact hc1
  have ykeep:∀ j,j≠K.length→(X.set K.length (ttO scp lsp fp bp .busy))[j]?=X[j]?:=fun j hj=>by rw [List.getElem?_set,if_neg (by omega)]
  generalize X.set K.length (ttO scp lsp fp bp .busy)=Y at *
  have yf:rd Y fp 0 1=_:=(rd_cong (ykp _ (rd_lt hK.f) n4)).trans hK.f
  have hka:=c_add Y B U id off ex2 g lv rv kv mid wp scp lsp lid k true sv x1 cs (totF g.ls g.added (U.drop (k+1)))
    ((rd_cong (ykp _ (rd_lt hK.w) n1)).trans hK.w) (by have:=hK.wsc (Y.length-H.length);rwa [show H.length+(Y.length-H.length)=Y.length by have:=hK.kl;omega] at this) (hK.W.keep fun j hj=>by have:=hK.kl;rw [ykp j (by omega) (by omega)];exact hK.kH j hj)
    ((rd_cong (ykp _ (rd_lt hK.sc) n2)).trans hK.sc) (hK.sa.keep fun q hq=>ykp q (hK.sa.l.lt hq) (fun h=>n6 (by rw [← h];exact hq))) hk hUk.1 ⟨by rw [rd_cong ((ykp _ (by have:=rd_lt hUk.2.1.1;have:=hK.kl;omega) (by have:=rd_lt hUk.2.1.1;omega)).trans (hK.kH _ (rd_lt hUk.2.1.1)))];exact hUk.2.1.1,hUk.2.1.2⟩ hUk.2.2.1 hUk.2.2.2 hK.ls6 (by omega)
    ((rd_cong (ykp _ (rd_lt hK.ls) n3)).trans hK.ls) yc1 hc2 q1 (RAt.keep q2 fun q hq => ykeep q (q3 q hq).2.2) (totF_cano _ _ _) (fun b hb => by
      have:=totF_bd hK.ad.1 hK.ls6 (U:=U.drop (k+1)) (fun p hp=>by have:=hK.Um p (List.mem_of_mem_drop hp);exact⟨this.1,this.2.2.2⟩) b hb
      have h2:=hK.ad
      have h3:(U.drop (k+1)).length≤4:=by rw [List.length_drop];omega
      omega)
  have e1:totF g.ls g.added (U.drop k)=togL (alT (bAt U k).s (shI g.ls (bAt U k).s.id)) (totF g.ls g.added (U.drop (k+1))):=by
    rw [List.drop_eq_getElem_cons hk,← bAt_eq hk];rfl
  unfold ttB
  repeat (first|(with_reducible first|apply X2|apply X6)|((with_reducible apply O1);rfl;(simp (disch:=omega) [yf];exact Rz);exact Rz;(focus (first|(simp;done)|omega|(simp;omega)))))
  (with_reducible apply e_callV);(simp;exact Rz);(simp;exact Rz);exact hka
  rintro _ Z ⟨x,z1,z2,z3,z4,z5⟩
  repeat (first|(with_reducible apply Y2)|((with_reducible apply e_end);(simp;exact Rz)))
  have zl:K.length<Z.length:=by omega
  have zlo:Z[K.length]?=some (ttO scp lsp fp bp .busy):=by rw [z3 _ (by omega) (by omega)];exact ylo
  refine q_end (tt:=ttT scp lsp fp bp) (ps:=[25,26]) (a:=ttA) (b:=ttB) (h2:=Z.set K.length (ttO scp lsp fp bp .ready)) (by rw [zlo];exact Rz) Rz (.inl rfl) ⟨rfl,?_⟩
  have hs:∀ j,j≠K.length→(Z.set K.length (ttO scp lsp fp bp .ready))[j]?=Z[j]?:=fun j hj=>by rw [List.getElem?_set,if_neg (by omega)]
  refine⟨by rw [List.length_set];omega,fun j hj hne=>by rw [hs j (by omega),z3 j (by omega) hne];exact ykp j hj hne,by rw [List.getElem?_set,if_pos rfl,if_pos zl],cs.set k x,by rw [hs lid (by omega)];exact z2,by rw [List.length_set];exact hc2,fun j h1 h2=>?_⟩
  rcases Nat.lt_or_ge k j with h|h
  · obtain⟨x',w1,w2,w3⟩:=hc3 j (by omega) h2
    refine⟨x',by rw [List.getElem?_set,if_neg (by omega)];exact w1,RAt.keep w2 fun q hq=>?_,w3⟩
    have hq3:=w3 q hq
    have hql:=RAt.lt w2 hq
    rw [hs q hq3.2.2,z3 q (by omega) hq3.2.1,ykeep q hq3.2.2]
  · have:j=k:=by omega
    subst this
    refine⟨x,by rw [List.getElem?_set,if_pos rfl,if_pos (by omega)],?_,fun q hq=>by have:=z5 q hq;have:=hK.kl;exact⟨by omega,by omega,by omega⟩⟩
    rw [e1]
    exact RAt.keep z4 fun q hq=>hs q (by have:=z5 q hq;omega)
set_option maxHeartbeats 4000000 in
theorem c_totals (H:Heap) (B:List SP) (id off:Nat) (ex2:Bool) (hB:BayAt H id off B) (hok:okB B) (hn:B.length≤4) (g:Gr) (lv rv kv:AV) (hg:GAt H g lv rv kv) (mid:Nat) (hW:WAt H B g mid) (hml:mid<H.length) (hls:g.ls.length≤6) (had:0≤g.added∧g.added≤1000000) (hns:∀ i,i<B.length→∀ n∈shI g.ls (bAt B i).s.id,-2000000≤n∧n≤2000000) :
    ACalls Try.prog F.scale_weighing_totals [.agg (wV (.slice id off B.length 7 ex2) g lv rv kv mid)] H (fun v h'=>∃ G lid x,h'=H++G∧v=.slice lid 0 ((usN B g.ls B.length).length+1) 1 true∧rd h' lid 0 1=some [x]∧RAt h' 2 x (pvs (totF g.ls g.added (usN B g.ls B.length))) (totF g.ls g.added (usN B g.ls B.length)).length∧∀ q,isId x q→H.length≤q):=by
  have hrl:=rd_lt hB.rows
  have sl:∀ m,lv.sc (H.length+m)=true:=fun m=>RAt.sc hg.l (by omega)
  have sr:∀ m,rv.sc (H.length+m)=true:=fun m=>RAt.sc hg.r (by omega)
  have sk:∀ m,kv.sc (H.length+m)=true:=fun m=>RAt.sc hg.k (by omega)
  have sl0:=sl 0
  have sr0:=sr 0
  have sk0:=sk 0
  rw [Nat.add_zero] at sl0 sr0 sk0
  have kU:=fun X=>c_inUse (H++X) B id off ex2 (hB.app X) (by omega) g lv rv kv (hg.app X) mid (by
    obtain⟨o,f,a,b,c,d⟩:=hW.mp
    exact⟨o,f,at_oldI _ a,b,c,fun id h=>by obtain⟨nid,e1,e2⟩:=d id h;exact⟨nid,e1,by rw [rd_old _ (rd_lt e2)];exact e2⟩⟩)
  have hul:=usN_len B g.ls B.length
  simp only [wV,Gr.av] at kU ⊢
  simp only [List.cons_append,List.nil_append] at kU ⊢
  refine acalls_of ok_scale_weighing_totals rfl fun hcl=>?_
  unfold ac_scale_weighing_totals zo
  simp only [argsT,Nat.zero_add,Nat.reduceAdd]
  repeat (first|(with_reducible first|apply X1|apply X2|apply X8)|((with_reducible apply e_end);(simp;exact Rz))|((with_reducible apply O1);rfl;(simp (disch:=omega);exact Rz);exact Rz;(focus (first|(simp;done)|omega|(simp;omega)))))
  (with_reducible apply e_call);(simp;exact Rz);exact kU _
  rintro sv _ ⟨G1,rfl,hA⟩
  have hUm:∀ p∈usN B g.ls B.length,p∈B∧shI g.ls p.s.id≠[]:=fun p hp=>by
    obtain⟨h1,h2⟩:=List.mem_filter.1 hp
    exact⟨List.mem_of_mem_take h1,of_decide_eq_true h2⟩
  generalize usN B g.ls B.length=U at *
  have ssv:∀ m,sv.sc (H.length+(G1.length+(m+1)))=true:=fun m=>hA.l.sc (by simp)
  have ssv0:=ssv 0
  have csv:∃ q n,sv=.nilslice∨sv=.slice q 0 n 7 false:=by
    obtain⟨_,⟨rfl,_⟩|⟨q,_,rfl,_⟩⟩:=hA
    · exact⟨0,0,.inl rfl⟩
    · exact⟨q,_,.inr rfl⟩
  have cso:cellsOf sv=some [sv]:=by
    obtain⟨q,n,rfl|rfl⟩:=csv <;> rfl
  have css:Abs.scal sv=true:=by
    obtain⟨q,n,rfl|rfl⟩:=csv <;> rfl
  simp only [cellsOf] at cso
  repeat ((with_reducible apply O1);rfl;(simp (disch:=omega) [cso];exact Rz);exact Rz;(focus (first|(simp;done)|omega|(simp;omega))))
  (with_reducible apply O2);rfl;(simp [cso];exact Rz);exact Rz;exact css
  repeat (first|(with_reducible first|apply X1|apply X2|apply X8)|((with_reducible apply e_end);(simp;exact Rz))|((with_reducible apply O1);rfl;(simp (disch:=omega);exact Rz);exact Rz;(focus (first|(simp;done)|omega|(simp;omega)))))
  refine O1 rfl (RAt.len hA.l.r _ (by simp)) Rz trivial ?_
  repeat (first|(with_reducible first|apply X1|apply X8|apply Y9)|((with_reducible apply e_end);(simp;exact Rz))|((first|((with_reducible apply O1);rfl)|((with_reducible apply O2);rfl)|((with_reducible apply P2);rfl));(simp (disch:=omega);exact Rz);exact Rz;(focus (first|(simp;done)|omega|(simp;omega)))))
  refine P1 rfl (RAt.len hA.l.r _ (by simp)) Rz trivial ?_
  repeat ((first|((with_reducible apply P1);rfl)|((with_reducible apply P2);rfl));(simp (disch:=omega);exact Rz);exact Rz;(focus (first|(simp;done)|omega|(simp;omega))))
  (with_reducible apply d_call);(simp;exact Rz);exact c_one _ _;(focus (first|(simp;done)|(simp;omega)))
  have hUi:(U.length:Int)<(U.length:Int)+1:=by omega
  repeat (first|(with_reducible first|apply X1|apply X2|apply X8)|((with_reducible first|apply e_end|apply d_end);(simp;exact Rz))|((first|((with_reducible apply O1);rfl)|((with_reducible apply O2);rfl)|((with_reducible apply P1);rfl)|((with_reducible apply P3);rfl)|((with_reducible apply P4);rfl));(simp (disch:=omega) [hUi];exact Rz);exact Rz;(focus (first|(simp;done)|omega|(simp;omega)))))
  have hA2:AAt (H++.cells [.slice id off B.length 7 ex2,lv,.int .i64 g.added,.int .i64 g.base,.int .i64 g.jit,rv,kv,.int .i64 g.spread,.bool g.stamp,.map mid] true :: (G1++[.cells [sv] true,.cells (List.replicate U.length .nilslice++[.slice (H.length+(G1.length+3+1)) 0 1 2 true]) true,.cells [.slice (H.length+(G1.length+1+1)) 0 (U.length+1) 1 true] true,.cells [.int .i64 g.added,.int .i64 g.added] true,.cells [.fn (.func F.scale_weighing_totals_1) [] [.ptr H.length 0,.ptr (H.length+(G1.length+1)) 0,.ptr (H.length+(G1.length+2+1)) 0]] true])) 7 sv (U.flatMap SP.av) U.length:=by
    have:=hA.app [.cells [sv] true,.cells (List.replicate U.length .nilslice++[.slice (H.length+(G1.length+3+1)) 0 1 2 true]) true,.cells [.slice (H.length+(G1.length+1+1)) 0 (U.length+1) 1 true] true,.cells [.int .i64 g.added,.int .i64 g.added] true,.cells [.fn (.func F.scale_weighing_totals_1) [] [.ptr H.length 0,.ptr (H.length+(G1.length+1)) 0,.ptr (H.length+(G1.length+2+1)) 0]] true]
    simpa using this
  have kb:=c_Backward _ sv _ _ hA2
  (with_reducible apply e_call);(simp;exact Rz);exact kb
  rintro _ _ ⟨rfl,rfl⟩
  repeat (first|(with_reducible first|apply X6|apply X8)|((with_reducible apply e_end);(simp;exact Rz)))
  simp only [List.append_assoc,List.cons_append,List.nil_append] at hA2 ⊢
  have hUok:∀ p∈U,p.s.ok∧p.tr H∧shI g.ls p.s.id≠[]∧∀ n∈shI g.ls p.s.id,-2000000≤n∧n≤2000000:=fun p hp=>by
    obtain⟨h1,h2⟩:=hUm p hp
    obtain⟨i,hi,rfl⟩:=mem_bAt h1
    exact⟨(hok i hi).2,hB.trs _ h1,h2,hns i hi⟩
  have hTK:TotK H (H++.cells [.slice id off B.length 7 ex2,lv,.int .i64 g.added,.int .i64 g.base,.int .i64 g.jit,rv,kv,.int .i64 g.spread,.bool g.stamp,.map mid] true :: (G1++[.cells [sv] true,.cells (List.replicate U.length .nilslice++[.slice (H.length+(G1.length+3+1)) 0 1 2 true]) true,.cells [.slice (H.length+(G1.length+1+1)) 0 (U.length+1) 1 true] true,.cells [.int .i64 g.added,.int .i64 g.added] true,.cells [.fn (.func F.scale_weighing_totals_1) [] [.ptr H.length 0,.ptr (H.length+(G1.length+1)) 0,.ptr (H.length+(G1.length+2+1)) 0]] true,.cells [sv] true])) B U id off ex2 g lv rv kv mid H.length (H.length+(G1.length+1)) (H.length+(G1.length+2+1)) (H.length+(G1.length+1+1)) (H.length+(G1.length+4+1)) (H.length+(G1.length+5+1)) sv :=
    { kH:=fun j hj=>List.getElem?_append_left hj
      kl:=by simp
      w:=by simp [wV,Gr.av]
      wsc:=fun m=>by simp [wV,Gr.av,scL,AV.sc,sl,sr,sk];omega
      sc:=by simp
      ls:=by simp
      f:=by simp
      b:=by simp
      sa:=by have:=hA2.app [.cells [sv] true];simpa using this
      lb:=by simp
      ne:=⟨by omega,by omega,by omega,by omega,by omega,fun h=>by
        have:=hA.l.lt h
        simp at this;omega⟩
      W:=hW
      U4:=by omega
      Um:=hUok
      ls6:=hls
      ad:=had }
  have k1:(H++AObj.cells [.slice id off B.length 7 ex2,lv,.int .i64 g.added,.int .i64 g.base,.int .i64 g.jit,rv,kv,.int .i64 g.spread,.bool g.stamp,.map mid] true :: (G1++[.cells [sv] true,.cells (List.replicate U.length .nilslice++[.slice (H.length+(G1.length+3+1)) 0 1 2 true]) true,.cells [.slice (H.length+(G1.length+1+1)) 0 (U.length+1) 1 true] true,.cells [.int .i64 g.added,.int .i64 g.added] true,.cells [.fn (.func F.scale_weighing_totals_1) [] [.ptr H.length 0,.ptr (H.length+(G1.length+1)) 0,.ptr (H.length+(G1.length+2+1)) 0]] true,.cells [sv] true]))[H.length+(G1.length+1+1)]?=some (.cells (List.replicate U.length .nilslice++[.slice (H.length+(G1.length+3+1)) 0 1 2 true]) true):=by simp
  have k2:(H++AObj.cells [.slice id off B.length 7 ex2,lv,.int .i64 g.added,.int .i64 g.base,.int .i64 g.jit,rv,kv,.int .i64 g.spread,.bool g.stamp,.map mid] true :: (G1++[.cells [sv] true,.cells (List.replicate U.length .nilslice++[.slice (H.length+(G1.length+3+1)) 0 1 2 true]) true,.cells [.slice (H.length+(G1.length+1+1)) 0 (U.length+1) 1 true] true,.cells [.int .i64 g.added,.int .i64 g.added] true,.cells [.fn (.func F.scale_weighing_totals_1) [] [.ptr H.length 0,.ptr (H.length+(G1.length+1)) 0,.ptr (H.length+(G1.length+2+1)) 0]] true,.cells [sv] true]))[H.length+(G1.length+3+1)]?=some (.cells [.int .i64 g.added,.int .i64 g.added] true):=by simp
  clear kb hA2 hA kU ssv ssv0
  generalize (H++AObj.cells [.slice id off B.length 7 ex2,lv,.int .i64 g.added,.int .i64 g.base,.int .i64 g.jit,rv,kv,.int .i64 g.spread,.bool g.stamp,.map mid] true :: (G1++[.cells [sv] true,.cells (List.replicate U.length .nilslice++[.slice (H.length+(G1.length+3+1)) 0 1 2 true]) true,.cells [.slice (H.length+(G1.length+1+1)) 0 (U.length+1) 1 true] true,.cells [.int .i64 g.added,.int .i64 g.added] true,.cells [.fn (.func F.scale_weighing_totals_1) [] [.ptr H.length 0,.ptr (H.length+(G1.length+1)) 0,.ptr (H.length+(G1.length+2+1)) 0]] true,.cells [sv] true]))=K at *
  generalize hlid:H.length+(G1.length+1+1)=lid at *
  generalize hone:H.length+(G1.length+3+1)=one at *
  generalize H.length+(G1.length+1)=scp at *
  generalize H.length+(G1.length+2+1)=lsp at *
  generalize H.length+(G1.length+4+1)=fp at *
  generalize H.length+(G1.length+5+1)=bp at *
  have hne:=hTK.ne
  have hlb:=hTK.lb
  have hkl:=hTK.kl
  have hl1:=(List.getElem?_eq_some_iff.1 k2).1
  have key:=c_back1 (K++[ttO scp lsp fp bp .ready]) K.length bp sv U (by have:=hTK.U4;omega) (InvB H K U g scp lsp lid fp bp)
    (fun k X hI=>by
      obtain⟨a,b,_⟩:=hI
      exact⟨by omega,(rd_cong (b _ (rd_lt hTK.b) hne.2.2.2.2.1)).trans hTK.b,hTK.sa.keep fun q hq=>b q (hTK.sa.l.lt hq) (fun h=>hne.2.2.2.2.2 (by rw [← h];exact hq))⟩)
    (fun k X hk hI=>y_tot hTK k X hk hI)
    ⟨by simp,fun j hj _=>List.getElem?_append_left hj,by simp,_,at_oldI _ k1,by simp,fun j h1 h2=>by
      have:j=U.length:=by omega
      subst this
      refine⟨.slice one 0 1 2 true,by simp,?_,fun q hq=>?_⟩
      · rw [List.drop_length]
        exact RAt.of_cells (b:=true) (by rw [List.getElem?_append_left hl1];exact k2) rfl
      · have:one=q:=hq
        exact⟨by omega,by omega,by omega⟩⟩
  simp only [ttO,ttT,ttA,ttB] at key
  have l1:=rd_lt hTK.b
  have l2:=rd_lt hTK.ls
  have l3:=rd_lt hTK.f
  refine e_range (R:=fun _ h'=>InvB H K U g scp lsp lid fp bp 0 h') (by simp;exact Rz) (by simp [tSc] <;> omega) (by simp;exact Rz) ?_ ?_
  · exact key
  · rintro _ Z ⟨a,b,c,cs,d1,d2,d3⟩
    refine range_end (by rw [c];exact Rz) Rz ?_
    obtain⟨x,w1,w2,w3⟩:=d3 0 (Nat.le_refl _) (by omega)
    have hs:∀ j,j≠K.length→(Z.set K.length .dead)[j]?=Z[j]?:=fun j hj=>by rw [List.getElem?_set,if_neg (by omega)]
    have zlp:rd (Z.set K.length .dead) lsp 0 1=some [.slice lid 0 (U.length+1) 1 true]:=by
      rw [rd_cong (hs _ (by omega)),rd_cong (b _ l2 hne.2.2.1)];exact hTK.ls
    have zc:(Z.set K.length .dead)[lid]?=some (.cells cs true):=by rw [hs _ (by omega)];exact d1
    have zr:RAt (Z.set K.length .dead) 2 x (pvs (totF g.ls g.added U)) (totF g.ls g.added U).length:=by
      rw [List.drop_zero] at w2
      exact RAt.keep w2 fun q hq=>hs q (w3 q hq).2.2
    have zl:(Z.set K.length .dead).length=Z.length:=List.length_set
    obtain⟨GG,hGG⟩:=ext_of (A:=H) (h':=Z.set K.length .dead) (by omega) (fun j hj=>by rw [hs _ (by omega),b _ (by omega) (by omega)];exact hTK.kH j hj)
    rw [hGG] at zlp zc zr ⊢
    have zll:lid<H.length+GG.length:=by have:=(List.getElem?_eq_some_iff.1 zc).1;simpa using this
    repeat (first|(with_reducible first|apply X1|apply X2|apply X3|apply X8|apply Y2)|((with_reducible apply e_end);(simp;exact Rz))|((with_reducible apply O1);rfl;(simp (disch:=omega) [zlp];exact Rz);exact Rz;(focus (first|(simp;done)|omega|(simp;omega)))))
    refine q_stay (.inr rfl) (by simp;exact Rz) ⟨GG,lid,x,rfl,rfl,?_,zr,fun q hq=>(w3 q hq).1⟩
    rw [rd_cellsK zc (by omega)]
    obtain⟨h1,h2⟩:=List.getElem?_eq_some_iff.1 w1
    rw [List.drop_eq_getElem_cons h1,h2];rfl
open Classical in
noncomputable def toL (B:List SP) (g:Gr):List (Int × Int):=if chE B g=0 then totF g.ls g.added (usN B g.ls B.length) else []
open Classical in
noncomputable def toE (B:List SP) (g:Gr):Int:=if chE B g=0 then (if toL B g=[] then 6 else 0) else chE B g
theorem chE_zero {B:List SP} {g:Gr}:chE B g=0↔(okB B∧B.length≤4)∧okG B g:=by
  unfold chE
  by_cases h1:okB B∧B.length≤4
  · rw [if_pos h1]
    by_cases h2:okG B g
    · rw [if_pos h2];exact⟨fun _=>⟨h1,h2⟩,fun _=>rfl⟩
    · rw [if_neg h2];exact⟨fun h=>absurd h (by decide),fun h=>absurd h.2 h2⟩
  · rw [if_neg h1];exact⟨fun h=>absurd h (by decide),fun h=>absurd h.1 h1⟩
theorem okG.ns {B:List SP} {g:Gr} (h:okG B g):∀ id,∀ n∈shI g.ls id,-2000000≤n∧n≤2000000:=fun id n hn=>by
  obtain⟨l,hl,_,rfl⟩:=mem_shI.1 hn
  obtain⟨k,hk,rfl⟩:=List.mem_iff_getElem.1 hl
  obtain⟨j,_,_,hc⟩:=h.ld k hk
  rw [lAt_eq hk] at hc
  exact hc.2
set_option maxHeartbeats 4000000 in
theorem c_Totals (H:Heap) (B:List SP) (id off:Nat) (ex2:Bool) (hB:BayAt H id off B) (hn:(B.length:Int)<1000000) (g:Gr) (lv rv kv:AV) (hg:GAt H g lv rv kv) :
    ACalls Try.prog F.scale_Totals [.agg [.slice id off B.length 7 ex2],.agg (g.av lv rv kv)] H (fun v h'=>∃ tv G,h'=H++G∧v=.tuple [tv,.int .i64 (toE B g)]∧RAt h' 2 tv (pvs (toL B g)) (toL B g).length∧∀ q,isId tv q→H.length≤q):=by
  have hrl:=rd_lt hB.rows
  have sl:∀ m,lv.sc (H.length+m)=true:=fun m=>RAt.sc hg.l (by omega)
  have sr:∀ m,rv.sc (H.length+m)=true:=fun m=>RAt.sc hg.r (by omega)
  have sk:∀ m,kv.sc (H.length+m)=true:=fun m=>RAt.sc hg.k (by omega)
  have sl0:=sl 0
  have sr0:=sr 0
  have sk0:=sk 0
  rw [Nat.add_zero] at sl0 sr0 sk0
  have kch:=fun X=>c_Check4 (H++X) B id off ex2 (hB.app X) hn g lv rv kv (hg.app X)
  have kwe:=fun X hok hld=>c_weigh (H++X) B id off ex2 (hB.app X) hok hn g lv rv kv (hg.app X) hld
  simp only [Gr.av] at kch kwe ⊢
  refine acalls_of ok_scale_Totals rfl fun hcl=>?_
  unfold ac_scale_Totals zo
  simp only [argsT,Nat.zero_add,Nat.reduceAdd]
  repeat (first|(with_reducible first|apply X1|apply X2|apply X8)|((with_reducible apply e_end);(simp;exact Rz))|((with_reducible apply O1);rfl;(simp (disch:=omega);exact Rz);exact Rz;(focus (first|(simp;done)|omega|(simp;omega)))))
  (with_reducible apply e_call);(simp;exact Rz);exact kch _
  rintro _ _ ⟨rfl,rfl⟩
  by_cases h0:chE B g=0
  · obtain⟨⟨hok,hn4⟩,hG⟩:=chE_zero.1 h0
    have eL:toL B g=totF g.ls g.added (usN B g.ls B.length):=by simp only [toL,if_pos h0]
    have eE:toE B g=if toL B g=[] then 6 else 0:=by simp only [toE,if_pos h0]
    repeat (first|(with_reducible first|apply X1|apply X2|apply X5|apply X8)|((with_reducible apply e_end);(simp;exact Rz))|((with_reducible apply O1);rfl;(simp (disch:=omega) [h0];exact Rz);exact Rz;(focus (first|(simp;done)|omega|(simp;omega))))|((with_reducible apply W3);(simp (disch:=omega) [h0];exact Rz)))
    (with_reducible apply e_call);(simp;exact Rz);exact kwe _ hok hG.ld
    rintro _ _ ⟨mid,G,rfl,rfl,hW,hml⟩
    simp only [List.append_assoc,List.cons_append,List.nil_append] at hW hml ⊢
    have hB2:=hB.app (.cells [.slice id off B.length 7 ex2] true :: .cells [lv,.int .i64 g.added,.int .i64 g.base,.int .i64 g.jit,rv,kv,.int .i64 g.spread,.bool g.stamp] true :: G)
    have hg2:=hg.app (.cells [.slice id off B.length 7 ex2] true :: .cells [lv,.int .i64 g.added,.int .i64 g.base,.int .i64 g.jit,rv,kv,.int .i64 g.spread,.bool g.stamp] true :: G)
    have kto:=c_totals _ B id off ex2 hB2 hok hn4 g lv rv kv hg2 mid hW hml hG.len hG.ba.ad (fun i hi=>hG.ns _)
    simp only [wV,Gr.av,List.cons_append,List.nil_append] at kto
    skip
    (with_reducible apply e_call);(simp;exact Rz);exact kto
    rintro _ _ ⟨G2,lid,x,rfl,rfl,hr,hx,hxi⟩
    rw [← eL] at hx
    simp only [List.append_assoc,List.cons_append,List.nil_append] at hr hx ⊢
    have hll:=rd_lt hr
    have h1:(0:Int)<((usN B g.ls B.length).length:Int)+1:=by omega
    repeat (first|(with_reducible first|apply X1|apply X2|apply X8)|((with_reducible apply e_end);(simp;exact Rz))|((with_reducible apply O1);rfl;(simp (disch:=omega) [hr,h1];exact Rz);exact Rz;(focus (first|(simp;done)|omega|(simp;omega)))))
    refine O1 rfl (RAt.len hx _ (by simp)) Rz trivial ?_
    have hxs:∀ q,isId x q→H.length≤q:=fun q hq=>by have:=hxi q hq;simp at this;omega
    by_cases h2:(toL B g).length=0
    · have h3:toL B g=[]:=List.eq_nil_of_length_eq_zero h2
      repeat (first|(with_reducible first|apply X1|apply X2|apply X3|apply X8|apply X9)|((with_reducible apply e_end);(simp;exact Rz))|((with_reducible apply O1);rfl;(simp (disch:=omega) [h2];exact Rz);exact Rz;(focus (first|(simp;done)|omega|(simp;omega))))|((with_reducible apply Z9);(simp (disch:=omega) [h2];exact Rz)))
      refine q_drop (.inr rfl) (by simp;exact Rz) (by simp) ⟨.nilslice,[],(List.append_nil _).symm,by rw [eE,if_pos h3],by rw [h3];exact⟨by simp [pvs],.inl ⟨rfl,rfl⟩⟩,fun q hq=>hq.elim⟩
    · have h3:toL B g≠[]:=fun h=>h2 (by rw [h];rfl)
      have sx:x.sc (H++.cells [.slice id off B.length 7 ex2] true :: .cells [lv,.int .i64 g.added,.int .i64 g.base,.int .i64 g.jit,rv,kv,.int .i64 g.spread,.bool g.stamp] true :: (G++G2)).length=true:=hx.sc (Nat.le_refl _)
      repeat (first|(with_reducible first|apply X1|apply X2|apply X3|apply X5|apply X8)|((with_reducible apply e_end);(simp;exact Rz))|((with_reducible apply O1);rfl;(simp (disch:=omega) [h2];exact Rz);exact Rz;(focus (first|(simp;done)|omega|(simp;omega))))|((with_reducible apply W3);(simp (disch:=omega) [h2];exact Rz)))
      exact q_stay (.inr rfl) (by simp;exact Rz) ⟨x,_,rfl,by rw [eE,if_neg h3],hx,hxs⟩
  · have eL:toL B g=[]:=by simp only [toL,if_neg h0]
    have eE:toE B g=chE B g:=by simp only [toE,if_neg h0]
    repeat (first|(with_reducible first|apply X1|apply X2|apply X3|apply X8|apply X9)|((with_reducible apply e_end);(simp;exact Rz))|((with_reducible apply O1);rfl;(simp (disch:=omega) [h0];exact Rz);exact Rz;(focus (first|(simp;done)|omega|(simp;omega))))|((with_reducible apply Z9);(simp (disch:=omega) [h0];exact Rz)))
    refine q_drop (.inr rfl) (by simp;exact Rz) (by simp) ⟨.nilslice,[],(List.append_nil _).symm,by rw [eE],by rw [eL];exact⟨by simp [pvs],.inl ⟨rfl,rfl⟩⟩,fun q hq=>hq.elim⟩
end Go.Proofs
