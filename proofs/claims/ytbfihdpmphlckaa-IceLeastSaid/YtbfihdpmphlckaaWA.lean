/- Several texts as one. -/
import Derived.Test.YtbfihdpmphlckaaRA
import Derived.Test.YtbfihdpmphlckaaPB
import Derived.Test.YtbfihdpmphlckaaKK
/- Ice: how often each stretch is sprayed,and the water by it. -/
namespace Go.Proofs
open Go.Abs
attribute [local simp] AOp.den AOpd.ev lk cellsOf rd_new rd_new0 rd_zero rd_succ wr_new wr_new0 wr_zero wr_succ splice fillA binA scal sliceCells List.length_append argsT AV.sc scL AObj.sc resV getAll AR.get AOp.slots opdSlots opdsSlots partSlots eqAt at_new0 at_new set_new0 set_new wrap64
set_option linter.unusedSimpArgs false
set_option linter.unusedVariables false
def cK (l : List Int) : Nat→Nat→Int
  | 0,_=>0
  | k+1,s=>cK l k s+if l.getD k 0=(s : Int) then 1 else 0
def cP (L : Nat→List Int) : Nat→Nat→Int
  | 0,_=>0
  | h+1,s=>cP L h s+cK (L h) (L h).length s
theorem cK_bd (l : List Int) (s : Nat) : ∀ k,0≤cK l k s∧cK l k s≤k
  | 0=>by simp [cK]
  | k+1=>by
    have:=cK_bd l s k
    simp only [cK]
    split <;> omega
theorem cP_bd {c : Cv} {n : Nat} (hc : c.ok n) {L : Nat→List Int} (hL : okPl c L) (s : Nat) : ∀ {h : Nat},h≤c.hs.length→0≤cP L h s∧cP L h s≤12 * h
  | 0,_=>by simp [cP]
  | h+1,hh=>by
    have ih:=cP_bd hc hL s (h:=h) (by omega)
    have hl:=(hL h (by omega)).1
    have h2:=hc.hok h (by omega)
    rw [← Cv.h_eq (by omega)] at h2
    have h3:=h2.2.2
    simp only [handsF] at hl
    have h5 : ((L h).length : Int)≤12:=by split at hl <;> omega
    have:=cK_bd (L h) s (L h).length
    simp only [cP]
    omega
def smF (f : Nat→Int) : Nat→Int
  | 0=>0
  | n+1=>smF f n+f n
theorem smF_add (f g : Nat→Int) : ∀ n,smF (fun s=>f s+g s) n=smF f n+smF g n
  | 0=>rfl
  | n+1=>by simp only [smF,smF_add f g n]; omega
theorem smF_one (r : Int) (g : Nat→Int) (a : Nat) : ∀ n,smF (fun s=>(if (a : Int)=(s : Int) then 1 else 0) * r * g s) n=if a < n then r * g a else 0
  | 0=>by simp [smF]
  | n+1=>by
    simp only [smF,smF_one r g a n]
    by_cases h : a=n
    · subst h; simp
    · have : ¬ (a : Int)=(n : Int):=by omega
      rw [if_neg this]
      by_cases h2 : a < n
      · rw [if_pos h2,if_pos (by omega)]; simp
      · rw [if_neg h2,if_neg (by omega)]; simp
theorem smF_zero : ∀ n,smF (fun _=>0) n=0
  | 0=>rfl
  | n+1=>by simp only [smF,smF_zero n]; rfl
theorem wa_cK {r : Int} {g : Nat→Int} {l : List Int} {n : Nat} (hl : okL n l) : ∀ {k : Nat},k≤l.length→waL r g l k=smF (fun s=>cK l k s * r * g s) n
  | 0,_=>by simp only [waL,cK,Int.zero_mul,smF_zero]
  | k+1,hk=>by
    have ih:=wa_cK (r:=r) (g:=g) hl (k:=k) (by omega)
    have ho:=(hl k (by omega)).1
    have e : l.getD k 0=l[k]:=by simp [List.getD_eq_getElem?_getD,List.getElem?_eq_getElem (show k < l.length by omega)]
    have e2 : ((l[k].toNat : Nat) : Int)=l[k]:=by omega
    have e3:=smF_one r g l[k].toNat n
    rw [if_pos (by omega),e2] at e3
    simp only [waL,cK,e,Int.add_mul,smF_add,ih,e3]
theorem wa_cP {r : Int} {g : Nat→Int} {c : Cv} {L : Nat→List Int} (hL : okPl c L) : ∀ {h : Nat},h≤c.hs.length→waP r g L h=smF (fun s=>cP L h s * r * g s) c.bs.length
  | 0,_=>by simp only [waP,cP,Int.zero_mul,smF_zero]
  | h+1,hh=>by
    have ih:=wa_cP (r:=r) (g:=g) hL (h:=h) (by omega)
    have:=wa_cK (r:=r) (g:=g) (hL h (by omega)).2 (Nat.le_refl _)
    simp only [waP,cP,Int.add_mul,smF_add,ih,this]
theorem smF_le {f g : Nat→Int} : ∀ {n : Nat},(∀ s,s < n→f s≤g s)→smF f n≤smF g n
  | 0,_=>Int.le_refl _
  | n+1,h=>by
    have:=smF_le (f:=f) (g:=g) (n:=n) fun s hs=>h s (by omega)
    have:=h n (by omega)
    simp only [smF]; omega
theorem avL_zero (n : Nat) : List.replicate n (AV.int .i64 0)=avL (fun _=>0) n:=by
  induction n with
  | zero=>rfl
  | succ n ih=>rw [List.replicate_succ',ih,avL_succ]
end Go.Proofs
/- Ice: how often each stretch is sprayed,counted. -/
namespace Go.Proofs
open Go.Abs
attribute [local simp] AOp.den AOpd.ev lk cellsOf rd_new rd_new0 rd_zero rd_succ wr_new wr_new0 wr_zero wr_succ splice fillA binA scal sliceCells List.length_append argsT AV.sc scL AObj.sc resV getAll AR.get AOp.slots opdSlots opdsSlots partSlots eqAt at_new0 at_new set_new0 set_new wrap64
set_option linter.unusedSimpArgs false
set_option linter.unusedVariables false
set_option maxHeartbeats 1000000 in
theorem c_count (H : Heap) (l : List Str) (c : Cv) (p : Plc) (hp : CvAt H c p) (hc : c.ok l.length) (hv : validL l) (pl : AV) (L : Nat→List Int) (hpl : PlAt H pl c.hs.length L) (hL : okPl c L) :
    ACalls Try.prog F.qby [.agg (c.av p),pl] H (fun v h'=>v=.slice H.length 0 c.bs.length 1 true∧h'=H++[.cells (avL (cP L c.hs.length) c.bs.length) true]):=by
  have hp1:=hp.t
  have hp2:=rd_lt hp.b
  have hp3:=rd_lt hp.h
  have h12:=hv.1
  have hlen:=hc.len
  have h8:=hc.hours
  have hLl:=okPl_len hc hL
  obtain ⟨pid,poff,pex,rfl,hpid,hprow⟩:=hpl.get
  simp only [Cv.av] at *
  refine acalls_of ok_qby rfl fun hcl=>?_
  unfold ac_qby zo
  simp only [argsT,Nat.zero_add,Nat.reduceAdd]
  repeat (first|(with_reducible first|apply X1|apply X2|apply X6|apply X8)|((with_reducible apply e_end);(simp;exact Rz))|((with_reducible apply O1);rfl;(simp (disch:=omega);exact Rz);exact Rz;(focus (first|(simp;done)|omega|(simp;omega)))))
  rw [avL_zero]
  refine e_loop (ι:={ h : Nat // h≤c.hs.length }) (fun h=>[(5,.slice (H.length+1) 0 c.bs.length 1 true),(14,.slice pid poff c.hs.length 1 pex),(15,.int .i64 c.hs.length),(16,.int .i64 h.1)])
    (fun h=>H++[.cells [.slice p.tid p.toff p.tn 9 p.tex,.slice p.bid p.boff c.bs.length 3 p.bex,.slice p.hid p.hoff c.hs.length 5 p.hex,.int .i64 c.w1,.int .i64 c.w2,.int .i64 c.y1,.int .i64 c.y2,.int .i64 c.rate,.int .i64 c.lim,.int .i64 c.base] true,.cells (avL (cP L h.1) c.bs.length) true]) (fun h=>c.hs.length - h.1) ⟨0,by simp⟩ ?_ ?_
  · exact .inl rfl
  · rintro ⟨h,hh⟩
    dsimp only
    by_cases hlt : h < c.hs.length
    · have hlt2 : (h : Int) < c.hs.length:=by omega
      obtain ⟨x,hx,hxi⟩:=hprow h hlt
      have hxs:=hxi.sc (Nat.le_refl _)
      have hxs2 : ∀ k,x.sc (H.length+k)=true:=fun k=>hxi.sc (by omega)
      have hLh:=hL h hlt
      have hLn:=hLl h hlt
      repeat (first|(with_reducible first|apply X1|apply X2|apply X5|apply X6|apply X8)|((with_reducible apply e_end);(simp;exact Rz))|((with_reducible apply O1);rfl;(simp (disch:=omega) [hlt,hlt2,rd_old _ hpid,hx];exact Rz);exact Rz;(focus (first|(simp;done)|omega|(simp;omega))))|((with_reducible apply Z9);(simp (disch:=omega) [hlt,hlt2,rd_old _ hpid,hx];exact Rz)))
      (with_reducible apply e_op); rfl; exact RAt.len hxi _ (by simp); exact Rz; trivial
      repeat (first|(with_reducible first|apply X6|apply X8)|((with_reducible apply e_end);(simp;exact Rz))|((with_reducible apply O1);rfl;(simp (disch:=omega);exact Rz);exact Rz;(focus (first|(simp;done)|omega|(simp;omega)))))
      refine e_loop (ι:={ k : Nat // k≤(L h).length }) (fun k=>[(5,.slice (H.length+1) 0 c.bs.length 1 true),(14,.slice pid poff c.hs.length 1 pex),(15,.int .i64 c.hs.length),(16,.int .i64 h),(20,x),(21,.int .i64 (L h).length),(22,.int .i64 k.1)])
        (fun k=>H++[.cells [.slice p.tid p.toff p.tn 9 p.tex,.slice p.bid p.boff c.bs.length 3 p.bex,.slice p.hid p.hoff c.hs.length 5 p.hex,.int .i64 c.w1,.int .i64 c.w2,.int .i64 c.y1,.int .i64 c.y2,.int .i64 c.rate,.int .i64 c.lim,.int .i64 c.base] true,.cells (avL (fun s=>cP L h s+cK (L h) k.1 s) c.bs.length) true]) (fun k=>(L h).length - k.1) ⟨0,by simp⟩ ?_ ?_
      · have e : avL (fun s=>cP L h s+cK (L h) 0 s) c.bs.length=avL (cP L h) c.bs.length:=by
          apply List.map_congr_left
          intro s _
          simp [cK]
        dsimp only
        rw [e]
        exact .inl rfl
      · rintro ⟨k,hk⟩
        dsimp only
        by_cases hkl : k < (L h).length
        · have hkl2 : (k : Int) < (L h).length:=by omega
          obtain ⟨xid,xoff,xex,rfl,hxr,hxl⟩:=IAt.get hxi hkl
          have ho:=(hLh.2 k hkl).1
          obtain ⟨a,ha⟩ : ∃ a : Nat,(L h)[k]=a:=⟨(L h)[k].toNat,by omega⟩
          have hal : a < c.bs.length:=by omega
          have hge : 0≤(a : Int):=by omega
          have hal2 : (a : Int) < c.bs.length:=by omega
          rw [ha] at hxr
          have h1:=avL_one (f:=fun s=>cP L h s+cK (L h) k s) hal
          have h2:=avL_put (f:=fun s=>cP L h s+cK (L h) k s) (g:=fun s=>cP L h s+cK (L h) (k+1) s) (x:=cP L h a+cK (L h) k a+1) hal (fun j=>by
            have e : (L h).getD k 0=(a : Int):=by rw [List.getD_eq_getElem?_getD,List.getElem?_eq_getElem hkl]; simpa using ha
            simp only [cK,e]
            by_cases hj : j=a
            · subst hj; simp; omega
            · have : ¬ (a : Int)=(j : Int):=by omega
              rw [if_neg this,if_neg hj,Int.add_zero])
          have b1:=cP_bd hc hL a (h:=h) hh
          have b2:=cK_bd (L h) a k
          have hl1 : a+1≤c.bs.length:=hal
          repeat (first|(with_reducible first|apply X1|apply X2|apply X5|apply X6|apply X8|apply Y2)|((with_reducible apply e_end);(simp;exact Rz))|((first|((with_reducible apply O1);rfl)|((with_reducible apply O2);rfl));(simp (disch:=omega) [hkl,hkl2,rd_old _ hxl,hxr,hge,hal,hal2,avL_length,h1,hl1,-splice,h2];exact Rz);exact Rz;(focus (first|(simp;done)|omega|(simp;omega))))|((with_reducible first|apply Z7|apply Z9);(simp (disch:=omega) [hkl,hkl2,rd_old _ hxl,hxr,hge,hal,hal2,avL_length,h1,hl1,-splice,h2];exact Rz)))
          exact q_again ⟨k+1,hkl⟩ (by dsimp only; omega) (.inl (by simp))
        · have hkl2 : ¬ (k : Int) < (L h).length:=by omega
          obtain rfl : k=(L h).length:=by omega
          repeat (first|(with_reducible first|apply X1|apply X2|apply X4|apply X8|apply Y1|apply Y2|apply Y4|apply Y6)|((with_reducible apply e_end);(simp;exact Rz))|((with_reducible apply O1);rfl;(simp (disch:=omega) [hkl2];exact Rz);exact Rz;(focus (first|(simp;done)|omega|(simp;omega))))|((with_reducible apply W3);(simp (disch:=omega) [hkl2];exact Rz)))
          exact q_again ⟨h+1,hlt⟩ (by dsimp only; omega) (.inl (by simp [cP]))
    · have hlt2 : ¬ (h : Int) < c.hs.length:=by omega
      obtain rfl : h=c.hs.length:=by omega
      repeat (first|(with_reducible first|apply X1|apply X2|apply X3|apply X4|apply X8|apply Y1|apply Y4|apply Y6)|((with_reducible apply e_end);(simp;exact Rz))|((with_reducible apply O1);rfl;(simp (disch:=omega) [hlt2];exact Rz);exact Rz;(focus (first|(simp;done)|omega|(simp;omega))))|((with_reducible apply W3);(simp (disch:=omega) [hlt2];exact Rz)))
      exact q_post (v':=.slice H.length 0 c.bs.length 1 true) (.inr rfl) (by simp; exact Rz) (le_plain [1] _ (by simp) rfl (by simp; exact .inr ⟨_,_,rfl,avL_scal _ _,fun m=>avL_sc _ _ m,fun ρ=>avL_ren ρ _ _⟩) (by simp [sh,AV.ren])) ⟨rfl,rfl⟩
end Go.Proofs
/- Ice: the reference's loss and thickness. -/
namespace Go.Proofs
open Go.Abs
attribute [local simp] AOp.den AOpd.ev lk cellsOf rd_new rd_new0 rd_zero rd_succ wr_new wr_new0 wr_zero wr_succ splice fillA binA scal sliceCells List.length_append argsT AV.sc scL AObj.sc resV getAll AR.get AOp.slots opdSlots opdsSlots partSlots eqAt at_new0 at_new set_new0 set_new wrap64
set_option linter.unusedSimpArgs false
set_option linter.unusedVariables false
theorem okPl_iff {c : Cv} {n : Nat} (hc : c.ok n) {h : Nat} (hh : h < c.hs.length) (m : Nat) : (m : Int)≤handsF c h↔(m : Int)≤(c.h h).crew∧¬ (0 < m∧(c.h h).cold=false):=by
  have h2:=hc.hok h hh
  rw [← Cv.h_eq hh] at h2
  have:=h2.2.2.1
  simp only [handsF]
  cases (c.h h).cold <;> simp <;> omega
theorem c_r2Valid (H : Heap) (c : Cv) (p : Plc) (m : Nat) (hp : CvAt H c p) (hc : c.ok m) (hm : m≤12) (pl : AV) (n : Nat) (L : Nat→List Int) (hpl : PlAt H pl n L) (hL : ∀ k,k < n→((L k).length : Int) < 1000000) (hn : (n : Int) < 1000000) {b : Bool} (hb : b=true↔n=c.hs.length∧okPl c L) :
    ACalls Try.prog F.qcr [.agg (c.av p),pl] H (fun v h'=>v=.bool b∧h'=H):=by
  have hp1:=hp.t
  have hp2:=rd_lt hp.b
  have hp3:=rd_lt hp.h
  have h8:=hc.hours
  have hlen:=hc.len
  obtain ⟨pid,poff,pex,rfl,hpid,hrow⟩:=hpl.get
  have no : ¬ (n=c.hs.length∧okPl c L)→AV.bool false=AV.bool b:=fun h=>by
    rw [AV.bool.injEq]; cases b; rfl; exact absurd (hb.1 rfl) h
  have hix4:=fun k (hk : k < c.hs.length)=>rd_sub' (hp.hour hk) 4 1 (by omega)
  have hix3:=fun k (hk : k < c.hs.length)=>rd_sub' (hp.hour hk) 3 1 (by omega)
  have hiff:=fun k (hk : k < c.hs.length)=>okPl_iff hc hk (L k).length
  simp only [Cv.av] at *
  refine acalls_of ok_qcr rfl fun hcl=>?_
  unfold ac_qcr zo
  simp only [argsT,Nat.zero_add,Nat.reduceAdd]
  by_cases hnl : n=c.hs.length
  rotate_left
  · have hnl2 : ¬ (n : Int)=c.hs.length:=by omega
    repeat (first|(with_reducible first|apply X1|apply X2|apply X3|apply X8|apply X9)|((with_reducible apply e_end);(simp;exact Rz))|((with_reducible apply O1);rfl;(simp (disch:=omega) [hnl2];exact Rz);exact Rz;(focus (first|(simp;done)|omega|(simp;omega))))|((with_reducible apply Z9);(simp (disch:=omega) [hnl2];exact Rz)))
    refine q_drop (.inr rfl) (by simp; exact Rz) (by simp) ⟨no fun h=>hnl h.1,rfl⟩
  subst hnl
  repeat (first|(with_reducible first|apply X1|apply X2|apply X5|apply X6|apply X8)|((with_reducible apply e_end);(simp;exact Rz))|((with_reducible apply O1);rfl;(simp (disch:=omega);exact Rz);exact Rz;(focus (first|(simp;done)|omega|(simp;omega))))|((with_reducible apply W3);(simp (disch:=omega);exact Rz)))
  refine e_loop (ι:={ i : Nat // i≤c.hs.length∧∀ h,h < c.hs.length→h < i→((L h).length : Int)≤handsF c h∧okL c.bs.length (L h) })
    (fun i=>[(1,.slice pid poff c.hs.length 1 pex),(2,.ptr H.length 0),(5,.int .i64 i.1)])
    (fun _=>H++[.cells (c.av p) true]) (fun i=>c.hs.length - i.1) ⟨0,by simp⟩ ?_ ?_
  · simp only [Cv.av]; exact .inl rfl
  · rintro ⟨i,hi1,hi2⟩
    simp only [Cv.av]
    by_cases hlt : i < c.hs.length
    · have hlt2 : (i : Int) < c.hs.length:=by omega
      obtain ⟨x,hx,hix⟩:=hrow i hlt
      have hxs' : ∀ k,x.sc (H.length+k)=true:=fun k=>RAt.sc hix (by omega)
      have noi : ¬ (((L i).length : Int)≤handsF c i∧okL c.bs.length (L i))→AV.bool false=AV.bool b:=fun h=>no fun h2=>h (h2.2 i hlt)
      have hix4:=hix4 i hlt
      have hix3:=hix3 i hlt
      have hiff:=hiff i hlt
      have hLi:=hL i hlt
      generalize hhd : handsF c i=hd at *
      generalize c.h i=hr at *
      obtain ⟨z1,z2,z3,z4,z5⟩:=hr
      simp only [Hr.av,List.drop_succ_cons,List.drop_zero,List.take_succ_cons,List.take_zero] at hix3 hix4 hiff
      generalize hl : L i=l at *
      repeat (first|(with_reducible first|apply X1|apply X2|apply X5|apply X6|apply X8|apply Y9)|((with_reducible apply e_end);(simp;exact Rz))|((first|((with_reducible apply O1);rfl)|((with_reducible apply P1);rfl)|((with_reducible apply P2);rfl));(simp (disch:=omega) [hlt,hlt2,rd_old _ hpid,hx];exact Rz);exact Rz;(focus (first|(simp;done)|omega|(simp;omega))))|((with_reducible apply Z9);(simp (disch:=omega) [hlt,hlt2,rd_old _ hpid,hx];exact Rz)))
      refine d_cut (fun t' h'=>∃ b' : Bool,t'=[(1,.slice pid poff c.hs.length 1 pex),(2,.ptr H.length 0),(5,.int .i64 i),(47,.bool b')]∧h'=H++[.cells (c.av p) true]∧(b'=false↔(l.length : Int)≤hd)) ?_ ?_
      · (with_reducible apply P1); rfl; exact RAt.len hix _ (by simp); exact Rz; trivial
        repeat ((first|((with_reducible apply P1);rfl)|((with_reducible apply P2);rfl));(simp (disch:=omega) [hlt,rd_old _ hp3,hix3];exact Rz);exact Rz;(focus (first|(simp;done)|omega|(simp;omega))))
        by_cases hk1 : z4 < l.length
        · repeat (first|((with_reducible apply d_end);(simp;exact Rz))|((with_reducible apply P1);rfl;(simp (disch:=omega) [hk1];exact Rz);exact Rz;(focus (first|(simp;done)|omega|(simp;omega))))|((with_reducible apply Z6);(simp (disch:=omega) [hk1];exact Rz))|((with_reducible apply W2);(simp (disch:=omega) [hk1];exact Rz)))
          exact q_keep ⟨true,rfl,rfl,by simp only [Bool.true_eq_false,false_iff]; intro h; have:=(hiff.1 h).1; omega⟩
        repeat (first|((first|((with_reducible apply P1);rfl)|((with_reducible apply P2);rfl));(simp (disch:=omega) [hk1,hlt,rd_old _ hpid,hx];exact Rz);exact Rz;(focus (first|(simp;done)|omega|(simp;omega))))|((with_reducible apply Z8);(simp (disch:=omega) [hk1,hlt,rd_old _ hpid,hx];exact Rz)))
        (with_reducible apply P1); rfl; exact RAt.len hix _ (by simp); exact Rz; trivial
        by_cases hk0 : 0 < l.length
        · have hk02 : (0 : Int) < l.length:=by omega
          cases z5 with
          | false =>
            repeat (first|((with_reducible apply d_end);(simp;exact Rz))|((first|((with_reducible apply P1);rfl)|((with_reducible apply P2);rfl));(simp (disch:=omega) [hk1,hk0,hk02,hlt,rd_old _ hp3,hix4];exact Rz);exact Rz;(focus (first|(simp;done)|omega|(simp;omega))))|((with_reducible apply Z8);(simp (disch:=omega) [hk1,hk0,hk02,hlt,rd_old _ hp3,hix4];exact Rz)))
            exact q_keep ⟨true,rfl,rfl,by simp only [Bool.true_eq_false,false_iff]; intro h; exact (hiff.1 h).2 ⟨hk0,rfl⟩⟩
          | true =>
            repeat (first|((with_reducible apply d_end);(simp;exact Rz))|((first|((with_reducible apply P1);rfl)|((with_reducible apply P2);rfl));(simp (disch:=omega) [hk1,hk0,hk02,hlt,rd_old _ hp3,hix4];exact Rz);exact Rz;(focus (first|(simp;done)|omega|(simp;omega))))|((with_reducible apply Z8);(simp (disch:=omega) [hk1,hk0,hk02,hlt,rd_old _ hp3,hix4];exact Rz)))
            exact q_keep ⟨false,rfl,rfl,by simp only [true_iff]; exact hiff.2 ⟨by omega,by simp⟩⟩
        · have hk02 : ¬ (0 : Int) < l.length:=by omega
          repeat (first|((with_reducible apply d_end);(simp;exact Rz))|((with_reducible apply P1);rfl;(simp (disch:=omega) [hk1,hk0,hk02];exact Rz);exact Rz;(focus (first|(simp;done)|omega|(simp;omega))))|((with_reducible apply Z8);(simp (disch:=omega) [hk1,hk0,hk02];exact Rz))|((with_reducible apply Z5);(simp (disch:=omega) [hk1,hk0,hk02];exact Rz)))
          exact q_keep ⟨false,rfl,rfl,by simp only [true_iff]; exact hiff.2 ⟨by omega,by simp [hk0]⟩⟩
      rintro _ _ ⟨b',rfl,rfl,hb'⟩
      cases b' with
      | true =>
        repeat (first|(with_reducible first|apply X1|apply X2|apply X3|apply X8|apply X9|apply Y3|apply Y5)|((with_reducible apply e_end);(simp;exact Rz))|((with_reducible apply O1);rfl;(simp (disch:=omega);exact Rz);exact Rz;(focus (first|(simp;done)|omega|(simp;omega))))|((with_reducible apply Z9);(simp (disch:=omega);exact Rz)))
        refine q_drop (.inr rfl) (by simp; exact Rz) (by simp) ⟨noi (fun h=>by have:=hb'.2 h.1; cases this),rfl⟩
      | false =>
      have hb':=hb'.1 rfl
      repeat (first|(with_reducible first|apply X1|apply X2|apply X5|apply X6|apply X8)|((with_reducible apply e_end);(simp;exact Rz))|((with_reducible apply O1);rfl;(simp (disch:=omega);exact Rz);exact Rz;(focus (first|(simp;done)|omega|(simp;omega))))|((with_reducible apply W3);(simp (disch:=omega);exact Rz)))
      refine e_loop (ι:={ k : Nat // k≤l.length∧∀ j (hj : j < l.length),j < k→(0≤l[j]∧l[j] < c.bs.length)∧∀ _ : 0 < j,(l[j - 1]'(by omega)) < l[j] })
        (fun k=>[(1,.slice pid poff c.hs.length 1 pex),(2,.ptr H.length 0),(5,.int .i64 i),(6,.int .i64 k.1)])
        (fun _=>H++[.cells (c.av p) true]) (fun k=>l.length - k.1) ⟨0,by simp⟩ ?_ ?_
      · simp only [Cv.av]; exact .inl rfl
      · rintro ⟨k,hk1,hk2⟩
        simp only [Cv.av]
        repeat (first|(with_reducible first|apply X1|apply X2)|((with_reducible apply O1);rfl;(simp (disch:=omega) [hlt,rd_old _ hpid,hx];exact Rz);exact Rz;(focus (first|(simp;done)|omega|(simp;omega)))))
        (with_reducible apply e_op); rfl; exact RAt.len hix _ (by simp); exact Rz; trivial
        by_cases hkl : k < l.length
        · have hkl2 : (k : Int) < l.length:=by omega
          have hy:=fun h0 : 0 < k=>IAt.get hix (show k - 1 < l.length by omega)
          obtain ⟨id,off,ex,rfl,hx1,hid⟩:=IAt.get hix hkl
          have nol : ¬ ((0≤l[k]∧l[k] < c.bs.length)∧∀ _ : 0 < k,(l[k - 1]'(by omega)) < l[k])→AV.bool false=AV.bool b:=fun h=>noi fun h2=>h (h2.2 k hkl)
          have nx : ((0≤l[k]∧l[k] < c.bs.length)∧∀ _ : 0 < k,(l[k - 1]'(by omega)) < l[k])→∀ j (hj : j < l.length),j < k+1→(0≤l[j]∧l[j] < c.bs.length)∧∀ _ : 0 < j,(l[j - 1]'(by omega)) < l[j]:=fun h j hj hji=>by
            rcases Nat.lt_or_ge j k with h1 | h1
            · exact hk2 j hj h1
            · obtain rfl : j=k:=by omega
              exact h
          obtain ⟨b1,h1⟩:=bof (0≤l[k]∧l[k]≤(c.bs.length : Int) - 1)
          repeat (first|(with_reducible first|apply X1|apply X5|apply X6|apply X8|apply Y9)|((with_reducible apply e_end);(simp;exact Rz))|((first|((with_reducible apply O1);rfl)|((with_reducible apply P1);rfl)|((with_reducible apply P2);rfl));(simp (disch:=omega) [hkl,hkl2,hlt,rd_old _ hpid,hx,rd_old _ hid,hx1];exact Rz);exact Rz;(focus (first|(simp;done)|omega|(simp;omega))))|((with_reducible apply Z9);(simp (disch:=omega) [hkl,hkl2,hlt,rd_old _ hpid,hx,rd_old _ hid,hx1];exact Rz)))
          (with_reducible apply d_call); (simp; exact Rz); exact c_r2within _ _ _ _ h1; (focus (first | (simp; done) | (simp; omega)))
          cases b1 with
          | false =>
            repeat (first|(with_reducible first|apply X1|apply X2|apply X3|apply X8|apply X9|apply Y3|apply Y5)|((with_reducible first|apply e_end|apply d_end);(simp;exact Rz))|((first|((with_reducible apply O1);rfl)|((with_reducible apply P1);rfl));(simp (disch:=omega);exact Rz);exact Rz;(focus (first|(simp;done)|omega|(simp;omega))))|((with_reducible apply Z9);(simp (disch:=omega);exact Rz))|((with_reducible apply Z6);(simp (disch:=omega);exact Rz))|((with_reducible apply W2);(simp (disch:=omega);exact Rz)))
            refine q_drop (.inr rfl) (by simp; exact Rz) (by simp) ⟨nol (fun h=>by have:=h1.2 ⟨h.1.1,by omega⟩; cases this),rfl⟩
          | true =>
          have h1:=h1.1 rfl
          by_cases h0 : 0 < k
          · have h02 : (0 : Int) < k:=by omega
            obtain ⟨id',off',ex',e1,hy,_⟩:=hy h0
            cases e1
            have hi1 : ((k : Int) - 1).toNat=k - 1:=by omega
            have hi3 : (0 : Int)≤(k : Int) - 1:=by omega
            have hi4 : (k : Int) - 1 < l.length:=by omega
            by_cases hk : l[k]≤(l[k - 1]'(by omega))
            · repeat (first|(with_reducible first|apply X1|apply X2|apply X3|apply X8|apply X9|apply Y3|apply Y5)|((with_reducible first|apply e_end|apply d_end);(simp;exact Rz))|((first|((with_reducible apply O1);rfl)|((with_reducible apply P1);rfl)|((with_reducible apply P2);rfl));(simp (disch:=omega) [h0,h02,hkl,hkl2,hlt,rd_old _ hpid,hx,rd_old _ hid,hx1,hy,hk,hi1,hi3,hi4];exact Rz);exact Rz;(focus (first|(simp;done)|omega|(simp;omega))))|((with_reducible first|apply Z8|apply Z9);(simp (disch:=omega) [h0,h02,hkl,hkl2,hlt,rd_old _ hpid,hx,rd_old _ hid,hx1,hy,hk,hi1,hi3,hi4];exact Rz)))
              refine q_drop (.inr rfl) (by simp; exact Rz) (by simp) ⟨nol (fun h=>by have:=h.2 h0; omega),rfl⟩
            · repeat (first|(with_reducible first|apply X2|apply X5|apply X8|apply Y2)|((with_reducible first|apply e_end|apply d_end);(simp;exact Rz))|((first|((with_reducible apply O1);rfl)|((with_reducible apply P1);rfl)|((with_reducible apply P2);rfl));(simp (disch:=omega) [h0,h02,hkl,hkl2,hlt,rd_old _ hpid,hx,rd_old _ hid,hx1,hy,hk,hi1,hi3,hi4];exact Rz);exact Rz;(focus (first|(simp;done)|omega|(simp;omega))))|((with_reducible apply Z8);(simp (disch:=omega) [h0,h02,hkl,hkl2,hlt,rd_old _ hpid,hx,rd_old _ hid,hx1,hy,hk,hi1,hi3,hi4];exact Rz))|((with_reducible apply W3);(simp (disch:=omega) [h0,h02,hkl,hkl2,hlt,rd_old _ hpid,hx,rd_old _ hid,hx1,hy,hk,hi1,hi3,hi4];exact Rz)))
              exact q_again ⟨k+1,hkl,nx ⟨⟨h1.1,by omega⟩,fun _=>by omega⟩⟩ (by dsimp only; omega) (.inl (by simp))
          · have h02 : ¬ (0 : Int) < k:=by omega
            repeat (first|(with_reducible first|apply X2|apply X5|apply X8|apply Y2)|((with_reducible first|apply e_end|apply d_end);(simp;exact Rz))|((first|((with_reducible apply O1);rfl)|((with_reducible apply P1);rfl));(simp (disch:=omega) [h0,h02];exact Rz);exact Rz;(focus (first|(simp;done)|omega|(simp;omega))))|((with_reducible apply Z8);(simp (disch:=omega) [h0,h02];exact Rz))|((with_reducible apply Z5);(simp (disch:=omega) [h0,h02];exact Rz))|((with_reducible apply W3);(simp (disch:=omega) [h0,h02];exact Rz)))
            exact q_again ⟨k+1,hkl,nx ⟨⟨h1.1,by omega⟩,fun h=>absurd h h0⟩⟩ (by dsimp only; omega) (.inl (by simp))
        · have hkl2 : ¬ (k : Int) < l.length:=by omega
          repeat (first|(with_reducible first|apply X2|apply X4|apply X8|apply Y1|apply Y2|apply Y4|apply Y6)|((with_reducible apply e_end);(simp;exact Rz))|((with_reducible apply O1);rfl;(simp (disch:=omega) [hkl2];exact Rz);exact Rz;(focus (first|(simp;done)|omega|(simp;omega))))|((with_reducible apply W3);(simp (disch:=omega) [hkl2];exact Rz)))
          refine q_again ⟨i+1,hlt,?_⟩ (by dsimp only; omega) (.inl (by simp))
          intro j hj hji
          rcases Nat.lt_or_ge j i with h | h
          · exact hi2 j hj h
          · obtain rfl : j=i:=by omega
            rw [hl,hhd]
            exact ⟨hb',fun j hj=>hk2 j hj (by omega)⟩
    · have hlt2 : ¬ (i : Int) < c.hs.length:=by omega
      repeat (first|(with_reducible first|apply X1|apply X2|apply X3|apply X4|apply X8|apply Y1|apply Y4|apply Y6)|((with_reducible apply e_end);(simp;exact Rz))|((with_reducible apply O1);rfl;(simp (disch:=omega) [hlt2];exact Rz);exact Rz;(focus (first|(simp;done)|omega|(simp;omega))))|((with_reducible apply W3);(simp (disch:=omega) [hlt2];exact Rz)))
      refine q_drop (.inr rfl) (by simp; exact Rz) (by simp) ⟨by rw [AV.bool.injEq]; exact (hb.2 ⟨rfl,fun h hh=>hi2 h hh (by omega)⟩).symm,rfl⟩
end Go.Proofs
