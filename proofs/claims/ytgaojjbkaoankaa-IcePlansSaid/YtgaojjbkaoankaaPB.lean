/- Several texts as one. -/
import Derived.Test.YtgaojjbkaoankaaPA
import Derived.Test.YtgaojjbkaoankaaKK
/- Hands that are left,and sprayings that are settled. -/
namespace Go.Proofs
open Go.Abs
attribute [local simp] AOp.den AOpd.ev lk cellsOf rd_new rd_new0 rd_zero rd_succ wr_new wr_new0 wr_zero wr_succ splice fillA binA scal sliceCells List.length_append argsT AV.sc scL AObj.sc resV getAll AR.get AOp.slots opdSlots opdsSlots partSlots eqAt at_new0 at_new set_new0 set_new wrap64
set_option linter.unusedSimpArgs false
set_option linter.unusedVariables false
theorem avL_put {f g:Nat→Int} {n i:Nat} {x:Int} (hi:i<n) (hg:∀ j,g j=if j=i then x else f j):Go.Abs.splice (avL f n) i [.int .i64 x]=avL g n:=by
  apply List.ext_getElem
  · simp [Go.Abs.splice,avL_length];omega
  · intro k h1 h2
    simp only [Go.Abs.splice,List.length_cons,List.length_nil]
    rw [avL_length] at h2
    have e:∀ (f:Nat→Int) (h:k<(avL f n).length),(avL f n)[k]=.int .i64 (f k):=fun f h=>by simp [avL]
    rw [e g]
    rcases Nat.lt_trichotomy k i with h3|h3|h3
    · rw [List.getElem_append_left (by simp [avL_length];omega),List.getElem_append_left (by simp [avL_length];omega),List.getElem_take,e f,hg,if_neg (by omega)]
    · subst h3
      rw [List.getElem_append_left (by simp [avL_length];omega),List.getElem_append_right (by simp [avL_length];omega)]
      simp [avL_length,hg]
    · rw [List.getElem_append_right (by simp [avL_length];omega),List.getElem_drop]
      have:i+1+(k-((avL f n).take i++[AV.int .i64 x]).length)=k:=by simp [avL_length];omega
      simp only [this,e f,hg,if_neg (show ¬ k=i by omega)]
theorem avL_one {f:Nat→Int} {n i:Nat} (hi:i<n):((avL f n).drop i).take 1=[.int .i64 (f i)]:=by
  have e:(avL f n).drop i=.int .i64 (f i) :: (avL f n).drop (i+1):=by
    rw [List.drop_eq_getElem_cons (by rw [avL_length];omega)];congr 1;simp [avL]
  rw [e];rfl
def rosV (c:Cv) (p:Plc) (nv:AV) (sid:Nat):List AV:=c.av p++[nv,.map sid]
def stT (S:Nat→Nat→Option Bool) (h s:Nat):Bool:=(S h s).getD false
def idF (c:Cv) (S:Nat→Nat→Option Bool) (h:Nat):Int:=if h<c.hs.length then handsF c h-Go.Hall.ct (stT S h) c.bs.length else 0
theorem mS_get (S:Nat→Nat→Option Bool) (h s:Nat):(mS S ((h:Int),(s:Int))).getD (.bool false)=.bool (stT S h s):=by
  rw [mS_at,stT]
  cases S h s <;> rfl
set_option maxHeartbeats 1000000 in
theorem c_sprayed (H:Heap) (c:Cv) (p:Plc) (hp:CvAt H c p) (nv:AV) (sid:Nat) (S:Nat→Nat→Option Bool) (hnv:nv.sc H.length=true) (hns:scal nv=true) (hS:∃ o,H[sid]?=some o∧PMap o (mS S)) (s b:Nat) (hb:b≤100) :
    ACalls Try.prog F.ice_roster_sprayed [.agg (rosV c p nv sid),.int .i64 s,.int .i64 b] H (fun v h'=>v=.int .i64 (Go.Hall.ct (fun h=>stT S h s) b)∧h'=H):=by
  have hp1:=hp.t
  have hp2:=rd_lt hp.b
  have hp3:=rd_lt hp.h
  obtain⟨o,so1,so2⟩:=hS
  have hsl:=(List.getElem?_eq_some_iff.1 so1).1
  simp only [rosV,Cv.av]
  refine acalls_of ok_ice_roster_sprayed rfl fun hcl=>?_
  unfold ac_ice_roster_sprayed zo
  simp only [argsT,Nat.zero_add,Nat.reduceAdd]
  repeat (first|(with_reducible first|apply X1|apply X2|apply X6|apply X8)|((with_reducible apply e_end);(simp;exact Rz))|((with_reducible apply O1);rfl;(simp (disch:=omega);exact Rz);exact Rz;(focus (first|(simp;done)|omega|(simp;omega)))))
  refine e_loop (ι:={ h:Nat // h≤b }) (fun h=>[(1,.int .i64 s),(3,.ptr H.length 0),(7,.int .i64 (Go.Hall.ct (fun h=>stT S h s) h.1)),(9,.int .i64 b),(10,.int .i64 h.1)])
    (fun _=>H++[.cells [.slice p.tid p.toff p.tn 9 p.tex,.slice p.bid p.boff c.bs.length 3 p.bex,.slice p.hid p.hoff c.hs.length 5 p.hex,.int .i64 c.w1,.int .i64 c.w2,.int .i64 c.y1,.int .i64 c.y2,.int .i64 c.rate,.int .i64 c.lim,.int .i64 c.base,nv,.map sid] true]) (fun h=>b-h.1) ⟨0,by simp⟩ ?_ ?_
  · exact .inl rfl
  · rintro⟨h,hh⟩
    dsimp only
    by_cases hlt:h<b
    · have hlt2:(h:Int)<b:=by omega
      have hb1:=Go.Hall.ct_nonneg (fun h=>stT S h s) h
      have hb2:=Go.Hall.ct_top (fun h=>stT S h s) h
      have hc:Go.Hall.ct (fun h=>stT S h s) (h+1)=Go.Hall.ct (fun h=>stT S h s) h+if stT S h s=true then 1 else 0:=rfl
      repeat (first|(with_reducible first|apply X1|apply X2|apply X5|apply X6|apply X8)|((with_reducible apply e_end);(simp;exact Rz))|((with_reducible apply O1);rfl;(simp (disch:=omega) [hlt2];exact Rz);exact Rz;(focus (first|(simp;done)|omega|(simp;omega))))|((with_reducible apply Z9);(simp (disch:=omega) [hlt2];exact Rz)))
      (with_reducible apply e_op);rfl;exact den_getM (k:=((h:Int),(s:Int))) (f:=mS S) rfl rfl (at_old _ so1) so2;exact Rz;trivial
      rw [mS_get]
      cases hst:stT S h s with
      | true =>
        rw [hst] at hc
        simp only [if_true] at hc
        repeat (first|(with_reducible first|apply X2|apply X8|apply Y2)|((with_reducible apply e_end);(simp;exact Rz))|((with_reducible apply O1);rfl;(simp (disch:=omega);exact Rz);exact Rz;(focus (first|(simp;done)|omega|(simp;omega))))|((with_reducible apply Z9);(simp (disch:=omega);exact Rz)))
        exact q_again ⟨h+1,hlt⟩ (by dsimp only;omega) (.inl (by simp [hc]))
      | false =>
        rw [hst] at hc
        simp only [Bool.false_eq_true,if_false,Int.add_zero] at hc
        repeat (first|(with_reducible first|apply X2|apply X5|apply X8|apply Y2)|((with_reducible apply e_end);(simp;exact Rz))|((with_reducible apply O1);rfl;(simp (disch:=omega);exact Rz);exact Rz;(focus (first|(simp;done)|omega|(simp;omega))))|((with_reducible apply W3);(simp (disch:=omega);exact Rz)))
        exact q_again ⟨h+1,hlt⟩ (by dsimp only;omega) (.inl (by simp [hc]))
    · have hlt2:¬ (h:Int)<b:=by omega
      obtain rfl:h=b:=by omega
      repeat (first|(with_reducible first|apply X1|apply X2|apply X3|apply X4|apply X8|apply Y1|apply Y4|apply Y6)|((with_reducible apply e_end);(simp;exact Rz))|((with_reducible apply O1);rfl;(simp (disch:=omega) [hlt2];exact Rz);exact Rz;(focus (first|(simp;done)|omega|(simp;omega))))|((with_reducible apply W3);(simp (disch:=omega) [hlt2];exact Rz)))
      refine q_drop (.inr rfl) (by simp;exact Rz) (by simp) ⟨rfl,rfl⟩
set_option maxHeartbeats 1000000 in
theorem c_idle (H:Heap) (c:Cv) (p:Plc) (hp:CvAt H c p) (n:Nat) (hc:c.ok n) (hn:n≤12) (nv:AV) (sid:Nat) (S:Nat→Nat→Option Bool) (hnv:nv.sc H.length=true) (hns:scal nv=true) (hS:∃ o,H[sid]?=some o∧PMap o (mS S)) :
    ACalls Try.prog F.ice_roster_idle [.agg (rosV c p nv sid)] H (fun v h'=>v=.agg (avL (idF c S) 8)∧h'=H):=by
  have hp1:=hp.t
  have hp2:=rd_lt hp.b
  have hp3:=rd_lt hp.h
  have h8:=hc.hours
  have hlen:=hc.len
  obtain⟨o,so1,so2⟩:=hS
  have hsl:=(List.getElem?_eq_some_iff.1 so1).1
  have kh:=fun G h hh=>c_hands (H++G) c p (hp.app G) h hh (by omega)
  simp only [rosV,Cv.av] at kh ⊢
  refine acalls_of ok_ice_roster_idle rfl fun hcl=>?_
  unfold ac_ice_roster_idle zo
  simp only [argsT,Nat.zero_add,Nat.reduceAdd]
  repeat (first|(with_reducible first|apply X1|apply X2|apply X6|apply X8)|((with_reducible apply e_end);(simp;exact Rz))|((with_reducible apply O1);rfl;(simp (disch:=omega);exact Rz);exact Rz;(focus (first|(simp;done)|omega|(simp;omega)))))
  refine e_loop (ι:={ h:Nat // h≤c.hs.length }) (fun h=>[(1,.ptr H.length 0),(2,.ptr (H.length+1) 0),(3,.ptr (H.length+2) 0),(10,.int .i64 c.hs.length),(11,.int .i64 h.1)])
    (fun h=>H++[.cells [.slice p.tid p.toff p.tn 9 p.tex,.slice p.bid p.boff c.bs.length 3 p.bex,.slice p.hid p.hoff c.hs.length 5 p.hex,.int .i64 c.w1,.int .i64 c.w2,.int .i64 c.y1,.int .i64 c.y2,.int .i64 c.rate,.int .i64 c.lim,.int .i64 c.base,nv,.map sid] true,.cells [.int .i64 0,.int .i64 0,.int .i64 0,.int .i64 0,.int .i64 0,.int .i64 0,.int .i64 0,.int .i64 0] true,.cells (avL (fun k=>if k<h.1 then idF c S k else 0) 8) true]) (fun h=>c.hs.length-h.1) ⟨0,by simp⟩ ?_ ?_
  · refine .inl ?_
    simp [avL,List.range_succ]
  · rintro⟨h,hh⟩
    dsimp only
    by_cases hlt:h<c.hs.length
    · have hlt2:(h:Int)<c.hs.length:=by omega
      have hb8:h<8:=by omega
      have hb82:(h:Int)<8:=by omega
      have hcr:=(hc.hok h hlt).2.2
      rw [← Cv.h_eq hlt] at hcr
      have hhb:0≤handsF c h∧handsF c h≤12:=by simp only [handsF];split <;> omega
      repeat (first|(with_reducible first|apply X1|apply X2|apply X5|apply X6|apply X8)|((with_reducible apply e_end);(simp;exact Rz))|((with_reducible apply O1);rfl;(simp (disch:=omega) [hlt2];exact Rz);exact Rz;(focus (first|(simp;done)|omega|(simp;omega))))|((with_reducible apply Z9);(simp (disch:=omega) [hlt2];exact Rz)))
      (with_reducible apply e_call);(simp;exact Rz);exact kh _ h hlt
      rintro _ _ ⟨rfl,rfl⟩
      have hp0:=avL_put (f:=fun k=>if k<h then idF c S k else 0) (g:=fun k=>if k=h then handsF c h else if k<h then idF c S k else 0) (n:=8) (i:=h) (x:=handsF c h) hb8 (fun j=>rfl)
      have hl1:h+1≤8:=hb8
      repeat (first|(with_reducible first|apply X1|apply X2|apply X6|apply X8)|((with_reducible apply e_end);(simp;exact Rz))|((first|((with_reducible apply O1);rfl)|((with_reducible apply O2);rfl));(simp (disch:=omega) [hb8,hb82,avL_length,hl1,-splice,hp0];exact Rz);exact Rz;(focus (first|(simp;done)|omega|(simp;omega)))))
      refine e_loop (ι:={ i:Nat // i≤c.bs.length }) (fun i=>[(1,.ptr H.length 0),(2,.ptr (H.length+1) 0),(3,.ptr (H.length+2) 0),(4,.int .i64 h),(10,.int .i64 c.hs.length),(11,.int .i64 h),(24,.int .i64 c.bs.length),(25,.int .i64 i.1)])
        (fun i=>H++[.cells [.slice p.tid p.toff p.tn 9 p.tex,.slice p.bid p.boff c.bs.length 3 p.bex,.slice p.hid p.hoff c.hs.length 5 p.hex,.int .i64 c.w1,.int .i64 c.w2,.int .i64 c.y1,.int .i64 c.y2,.int .i64 c.rate,.int .i64 c.lim,.int .i64 c.base,nv,.map sid] true,.cells [.int .i64 0,.int .i64 0,.int .i64 0,.int .i64 0,.int .i64 0,.int .i64 0,.int .i64 0,.int .i64 0] true,.cells (avL (fun k=>if k=h then handsF c h-Go.Hall.ct (stT S h) i.1 else if k<h then idF c S k else 0) 8) true]) (fun i=>c.bs.length-i.1) ⟨0,by simp⟩ ?_ ?_
      · refine .inl ?_
        simp [Go.Hall.ct,Go.Hall.sm]
      · rintro⟨i,hi⟩
        dsimp only
        by_cases hil:i<c.bs.length
        · have hil2:(i:Int)<c.bs.length:=by omega
          have hb1:=Go.Hall.ct_nonneg (stT S h) i
          have hb2:=Go.Hall.ct_top (stT S h) i
          have hcs:Go.Hall.ct (stT S h) (i+1)=Go.Hall.ct (stT S h) i+if stT S h i=true then 1 else 0:=rfl
          repeat (first|(with_reducible first|apply X1|apply X2|apply X5|apply X6|apply X8)|((with_reducible apply e_end);(simp;exact Rz))|((with_reducible apply O1);rfl;(simp (disch:=omega) [hil2];exact Rz);exact Rz;(focus (first|(simp;done)|omega|(simp;omega))))|((with_reducible apply Z9);(simp (disch:=omega) [hil2];exact Rz)))
          (with_reducible apply e_op);rfl;exact den_getM (k:=((h:Int),(i:Int))) (f:=mS S) rfl rfl (at_old _ so1) so2;exact Rz;trivial
          rw [mS_get]
          cases hst:stT S h i with
          | true =>
            rw [hst] at hcs
            simp only [if_true] at hcs
            have h1:=avL_one (f:=fun k=>if k=h then handsF c h-Go.Hall.ct (stT S h) i else if k<h then idF c S k else 0) hb8
            have h2:=avL_put (f:=fun k=>if k=h then handsF c h-Go.Hall.ct (stT S h) i else if k<h then idF c S k else 0) (g:=fun k=>if k=h then handsF c h-Go.Hall.ct (stT S h) (i+1) else if k<h then idF c S k else 0) (n:=8) (i:=h) (x:=handsF c h-Go.Hall.ct (stT S h) i-1) hb8 (fun j=>by
              by_cases hj:j=h
              · simp [hj];omega
              · simp [hj])
            simp only [if_true] at h1
            repeat (first|(with_reducible first|apply X2|apply X8|apply Y2)|((with_reducible apply e_end);(simp;exact Rz))|((first|((with_reducible apply O1);rfl)|((with_reducible apply O2);rfl));(simp (disch:=omega) [hb8,hb82,avL_length,hl1,h1,-splice,h2];exact Rz);exact Rz;(focus (first|(simp;done)|omega|(simp;omega))))|((with_reducible apply Z9);(simp (disch:=omega) [hb8,hb82,avL_length,hl1,h1,-splice,h2];exact Rz)))
            exact q_again ⟨i+1,hil⟩ (by dsimp only;omega) (.inl (by simp))
          | false =>
            rw [hst] at hcs
            simp only [Bool.false_eq_true,if_false,Int.add_zero] at hcs
            repeat (first|(with_reducible first|apply X2|apply X5|apply X8|apply Y2)|((with_reducible apply e_end);(simp;exact Rz))|((with_reducible apply O1);rfl;(simp (disch:=omega);exact Rz);exact Rz;(focus (first|(simp;done)|omega|(simp;omega))))|((with_reducible apply W3);(simp (disch:=omega);exact Rz)))
            exact q_again ⟨i+1,hil⟩ (by dsimp only;omega) (.inl (by simp [hcs]))
        · have hil2:¬ (i:Int)<c.bs.length:=by omega
          obtain rfl:i=c.bs.length:=by omega
          have e:avL (fun k=>if k=h then handsF c h-Go.Hall.ct (stT S h) c.bs.length else if k<h then idF c S k else 0) 8=avL (fun k=>if k<h+1 then idF c S k else 0) 8:=by
            apply List.map_congr_left
            intro k _
            by_cases hk:k=h
            · subst hk;simp [idF,hlt]
            · by_cases hk2:k<h
              · simp [hk,hk2,show k<h+1 by omega]
              · simp [hk,hk2,show ¬ k<h+1 by omega]
          repeat (first|(with_reducible first|apply X1|apply X2|apply X4|apply X8|apply Y1|apply Y2|apply Y4|apply Y6)|((with_reducible apply e_end);(simp;exact Rz))|((with_reducible apply O1);rfl;(simp (disch:=omega) [hil2];exact Rz);exact Rz;(focus (first|(simp;done)|omega|(simp;omega))))|((with_reducible apply W3);(simp (disch:=omega) [hil2];exact Rz)))
          exact q_again ⟨h+1,hlt⟩ (by dsimp only;omega) (.inl (by simp [e]))
    · have hlt2:¬ (h:Int)<c.hs.length:=by omega
      obtain rfl:h=c.hs.length:=by omega
      have e:avL (fun k=>if k<c.hs.length then idF c S k else 0) 8=avL (idF c S) 8:=by
        apply List.map_congr_left
        intro k _
        by_cases hk:k<c.hs.length
        · simp [hk]
        · simp [hk,idF]
      rw [e]
      repeat (first|(with_reducible first|apply X1|apply X2|apply X3|apply X4|apply X8|apply Y1|apply Y4|apply Y6)|((with_reducible apply e_end);(simp;exact Rz))|((first|((with_reducible apply O1);rfl)|((with_reducible apply O2);rfl));(simp (disch:=omega) [hlt2,avL_length,avL_take,avL_scal];exact Rz);exact Rz;(focus (first|(simp;done)|omega|(simp;omega))))|((with_reducible apply W3);(simp (disch:=omega) [hlt2,avL_length,avL_take,avL_scal];exact Rz)))
      exact q_drop (.inr rfl) (by simp [avL_length,avL_take];exact Rz) (by simp [avL_sc]) ⟨rfl,rfl⟩
theorem mA_none:mA (fun _ _=>false)=fun _=>none:=by funext k;simp [mA]
theorem mG_none:mG (fun _ _=>none)=fun _=>none:=by funext k;simp [mG]
set_option maxHeartbeats 1000000 in
theorem c_giver (H:Heap) (c:Cv) (p:Plc) (hp:CvAt H c p) (n:Nat) (hc:c.ok n) (hn:n≤12) (nv:AV) (sid:Nat) (S:Nat→Nat→Option Bool) (hnv:nv.sc H.length=true) (hns:scal nv=true) (hS:∃ o,H[sid]?=some o∧PMap o (mS S)) :
    ACalls Try.prog F.ice_roster_giver [.agg (rosV c p nv sid)] H (fun v h'=>∃ (x:FI) (X:Heap),h'=H++X∧v=.fn (.func F.ice_roster_giver_2) [] [.ptr x.acid 0,.ptr x.fcid 0]∧FS x h' (fun _ _=>false) (fun _ _=>none) (idF c S) S∧x.sid=sid ∧
      H.length≤x.aid∧H.length≤x.gid∧H.length≤x.lid∧H.length≤x.acid∧H.length≤x.fcid):=by
  have hp1:=hp.t
  have hp2:=rd_lt hp.b
  have hp3:=rd_lt hp.h
  have hsl:sid<H.length:=by obtain⟨o,so1,_⟩:=hS;exact (List.getElem?_eq_some_iff.1 so1).1
  have ki:=fun G=>c_idle (H++G) c p (hp.app G) n hc hn nv sid S (by rw [List.length_append];exact sc_mono (by omega) _ hnv) hns (by obtain⟨o,so1,so2⟩:=hS;exact⟨o,at_old G so1,so2⟩)
  simp only [rosV,Cv.av] at ki ⊢
  refine acalls_of ok_ice_roster_giver rfl fun hcl=>?_
  unfold ac_ice_roster_giver zo
  simp only [argsT,Nat.zero_add,Nat.reduceAdd]
  repeat (first|(with_reducible first|apply X1|apply X2|apply X8)|((with_reducible apply e_end);(simp;exact Rz))|((with_reducible apply O1);rfl;(simp (disch:=omega);exact Rz);exact Rz;(focus (first|(simp;done)|omega|(simp;omega)))))
  (with_reducible apply e_call);(simp;exact Rz);exact ki _
  rintro _ _ ⟨rfl,rfl⟩
  repeat (first|(with_reducible first|apply X1|apply X2|apply X3|apply X8)|((with_reducible apply e_end);(simp;exact Rz))|((first|((with_reducible apply O1);rfl)|((with_reducible apply O2);rfl));(simp (disch:=omega) [avL_length,avL_scal];exact Rz);exact Rz;(focus (first|(simp;done)|omega|(simp;omega)))))
  refine q_stay (.inr rfl) (by simp;exact Rz) ⟨⟨H.length,H.length+5,H.length+3,H.length+1,H.length+6,H.length+4,H.length+2,sid⟩,_,rfl,rfl,⟨by simp,by simp,by simp,by simp,by simp,⟨_,by simp;rfl,by rw [mA_none];exact PMap.nil⟩,⟨_,by simp;rfl,by rw [mG_none];exact PMap.nil⟩,?_,?_,?_⟩,rfl,?_⟩
  · obtain⟨o,so1,so2⟩:=hS;exact⟨o,at_old _ so1,so2⟩
  · dsimp only;omega
  · dsimp only;omega
  · dsimp only;omega
theorem e_clearM {P:Program} {l:List AO} {K:St→Prop} {t:List (Nat × AV)} {h:Heap} {m:AOpd} {id:Nat} {o:AObj} {f:Int × Int→Option AV} (hm:Red (m.ev t) (.map id)) (hh:h[id]?=some o) (hp:PMap o f)
    (hn:∀ o',PMap o' (fun _=>none)→EOps P l K t (h.set id o')):EOps P (⟨none,.mapClear m,none⟩ :: l) K t h:=by
  obtain⟨o',p1,p2⟩:=den_clearM (ev:=AOpd.ev t) hm hh hp
  exact e_do rfl p2 Rz trivial (hn o' p1)
theorem ua_none:ua (fun _ _=>false)≤96:=by decide
set_option maxHeartbeats 1000000 in
theorem c_give (x:FI) (B N:Nat) (hB:B≤8) (hN:N≤12) (S:Nat→Nat→Option Bool) (H:Heap) (A:Nat→Nat→Bool) (G:Nat→Nat→Option Nat) (Lf:Nat→Int) (s b:Nat) (hF:FS x H A G Lf S) (hv:VG B N S G) (hl:∀ h,h<8→0≤Lf h∧cH G h+Lf h≤100) (hb:b≤B) (hs:s<N) :
    ACalls Try.prog F.ice_roster_giver_2 [.int .i64 s,.int .i64 b,.ptr x.acid 0,.ptr x.fcid 0] H (findR x B N S s b (fun _ _=>false) G Lf H):=by
  have l2:=rd_lt hF.ac
  have l4:=rd_lt hF.fc
  obtain⟨o,a1,a2⟩:=hF.am
  refine acalls_of ok_ice_roster_giver_2 rfl fun hcl=>?_
  unfold ac_ice_roster_giver_2 zo
  simp only [argsT,Nat.zero_add,Nat.reduceAdd]
  repeat (first|(with_reducible first|apply X1|apply X2|apply X8)|((with_reducible apply e_end);(simp;exact Rz))|((with_reducible apply O1);rfl;(simp (disch:=omega) [hF.ac];exact Rz);exact Rz;(focus (first|(simp;done)|omega|(simp;omega)))))
  refine e_clearM (by simp;exact Rz) a1 a2 ?_
  intro o' ho'
  rw [← mA_none] at ho'
  have hF2:=hF.setA ho'
  have hO2:=Only.set (x:=x) (H:=H) o' (.inl rfl)
  have f4:=hF2.fc
  have hl2:(H.set x.aid o').length=H.length:=by simp
  generalize H.set x.aid o'=H2 at *
  repeat (first|(with_reducible first|apply X1|apply X2|apply X8)|((with_reducible apply e_end);(simp;exact Rz))|((with_reducible apply O1);rfl;(simp (disch:=omega) [f4];exact Rz);exact Rz;(focus (first|(simp;done)|omega|(simp;omega)))))
  (with_reducible apply e_callV);(simp;exact Rz);(simp;exact Rz);exact c_find x B N hB hN S 96 H2 _ G Lf s b hF2 (by have:=ua_none;simpa using this) hv hl hb hs
  rintro v h' ⟨hO3,A',hres⟩
  rcases hres with⟨G1,L1,rfl,hF3,hw⟩|⟨rfl,hF3,hlo⟩
  · have hO4:=hO2.trans hO3
    repeat (first|(with_reducible first|apply X3|apply X8)|((with_reducible apply e_end);(simp;exact Rz))|((with_reducible apply O1);rfl;(simp (disch:=omega);exact Rz);exact Rz;(focus (first|(simp;done)|omega|(simp;omega)))))
    exact q_post (.inr rfl) (by simp;exact Rz) (le_chg2 (hO4.chg hF3) (le_id (by simp [lk]))) ⟨hO4,A',.inl ⟨G1,L1,rfl,hF3,hw⟩⟩
  · have hO4:=hO2.trans hO3
    repeat (first|(with_reducible first|apply X3|apply X8)|((with_reducible apply e_end);(simp;exact Rz))|((with_reducible apply O1);rfl;(simp (disch:=omega);exact Rz);exact Rz;(focus (first|(simp;done)|omega|(simp;omega)))))
    exact q_post (.inr rfl) (by simp;exact Rz) (le_chg2 (hO4.chg hF3) (le_id (by simp [lk]))) ⟨hO4,A',.inr ⟨rfl,hF3,hlo⟩⟩
open Go.Hall
def ndX (c:Cv) (S:Nat→Nat→Option Bool) (s d:Nat):Int:=if s<c.bs.length∧d<c.hs.length then ndR c s d-ct (fun h=>stT S h s) d else 0
def feasR (c:Cv) (S:Nat→Nat→Option Bool):Prop:=Feas 12 8 (idF c S) (fun h s=>(S h s).isNone) (ndX c S)
def StuckR (c:Cv) (S:Nat→Nat→Option Bool):Prop:=∃ (last:Nat) (some:Nat→Bool),last<c.hs.length∧(∀ h,some h=true→h<last)∧Short 12 (last+1) (idF c S) (fun h s=>(S h s).isNone) (ndX c S) some
theorem StuckR.no {c:Cv} {S:Nat→Nat→Option Bool} (h8:c.hs.length≤8) (h:StuckR c S):¬ feasR c S:=by
  obtain⟨last,sm,h1,_,h2⟩:=h
  rintro⟨P,a1,a2,a3⟩
  exact short_none h2 ⟨P,a1,fun h hh=>a2 h (by omega),fun s hs d hd=>a3 s hs d (by omega)⟩
theorem cD_const {B N:Nat} {S:Nat→Nat→Option Bool} {G:Nat→Nat→Option Nat} (hv:VG B N S G) (s:Nat) {d e:Nat} (hd:B≤d) (he:B≤e):cD G s d=cD G s e:=ct_congr fun h _=>by
  cases hg:G h s with
  | none=>rfl
  | some u=>have:=(hv h s u hg).2.1;simp;omega
theorem cD_inc {G:Nat→Nat→Option Nat} {h s u:Nat} (hh:h<8) (hg:G h s=some u) (h1:1≤u):cD G s (u-1)+1≤cD G s u:=by
  have a:=sm_one h 8
  rw [if_pos hh] at a
  have b:cD G s (u-1)+ct (fun i=>decide (i=h)) 8≤cD G s u:=ct_split fun i _=>by
    refine⟨fun hi=>?_,fun hi=>?_,fun hi=>?_⟩
    · cases hgi:G i s with
      | none=>rw [hgi] at hi;simp at hi
      | some v=>rw [hgi] at hi;simp at hi ⊢;omega
    · simp at hi;subst hi;simp [hg]
    · obtain⟨hi1,hi2⟩:=hi
      simp at hi2;subst hi2
      rw [hg] at hi1;simp at hi1;omega
  have e:ct (fun i=>decide (i=h)) 8=1:=by
    have:ct (fun i=>decide (i=h)) 8=sm (fun i=>if i=h then 1 else 0) 8:=sm_congr fun i _=>by simp
    rw [this,a]
  omega
theorem cD_some {B N:Nat} {S:Nat→Nat→Option Bool} {G:Nat→Nat→Option Nat} (hv:VG B N S G) (s:Nat) {d:Nat} (hd:d≤8):cD G s d≤ct (fun h=>(G h s).isSome) d:=by
  rw [← ct_below (fun h=>(G h s).isSome) hd]
  exact ct_le fun h _ hi=>by
    cases hg:G h s with
    | none=>rw [hg] at hi;simp at hi
    | some u=>rw [hg] at hi;have:=(hv h s u hg).1;simp at hi ⊢;omega
structure FinS (c:Cv) (S:Nat→Nat→Option Bool) (h0:Nat) (G:Nat→Nat→Option Nat) (Lf:Nat→Int):Prop where
  vg:VG h0 c.bs.length S G
  nn:∀ h,h<8→0≤Lf h
  hr:∀ h,h<8→cH G h+Lf h=idF c S h
  i3:∀ s,s<c.bs.length→∀ d,1≤d→cD G s (d-1)<cD G s d→ct (fun h=>stT S h s) d+cD G s d≤ndR c s d
  i5:∀ d,d<h0→∀ s,s<c.bs.length→ndR c s d≤ct (fun h=>stT S h s) d+cD G s d
section
variable {c:Cv} {S:Nat→Nat→Option Bool} {h0:Nat} {G:Nat→Nat→Option Nat} {Lf:Nat→Int}
theorem FinS.start (hid:∀ h,h<8→0≤idF c S h):FinS c S 0 (fun _ _=>none) (idF c S):=by
  have z:∀ s d,cD (fun _ _=>none) s d=0:=fun s d=>(sm_congr fun i _=>by simp).trans (sm_zero 8)
  have z2:∀ h,cH (fun _ _=>none) h=0:=fun h=>(sm_congr fun i _=>by simp).trans (sm_zero 12)
  exact⟨fun h s u hg=>(by cases hg),hid,fun h _=>by rw [z2];omega,fun s _ d _ hlt=>by rw [z,z] at hlt;omega,fun d hd=>by omega⟩
theorem FinS.next (h:FinS c S h0 G Lf) (hm:∀ s,s<c.bs.length→ndR c s h0≤ct (fun h=>stT S h s) h0+cD G s h0):FinS c S (h0+1) G Lf :=
  ⟨fun a s u hg=>by have:=h.vg a s u hg;exact⟨this.1,by omega,this.2.2⟩,h.nn,h.hr,h.i3,fun d hd s hs=>by
    by_cases hd2:d=h0
    · subst hd2;exact hm s hs
    · exact h.i5 d (by omega) s hs⟩
theorem FinS.give (h:FinS c S h0 G Lf) {A A':Nat→Nat→Bool} {G':Nat→Nat→Option Nat} {L':Nat→Int} {s0:Nat} (hc:ct (fun h=>stT S h s0) h0+cD G s0 h0<ndR c s0 h0) (hw:Won h0 c.bs.length S s0 h0 A A' G G' Lf L'):FinS c S h0 G' L':=by
  refine⟨hw.vg,hw.nn,fun k hk=>by rw [hw.hr k hk,h.hr k hk],fun s hs d hd hlt=>?_,fun d hd s hs=>?_⟩
  · rcases Nat.lt_trichotomy d h0 with h1|h1|h1
    · rw [hw.cnt,hw.cnt,if_neg (by omega),if_neg (by omega)] at hlt
      rw [hw.cnt,if_neg (by omega),Int.add_zero]
      exact h.i3 s hs d hd (by omega)
    · subst h1
      by_cases h2:s=s0
      · subst h2
        rw [hw.cnt,if_pos ⟨rfl,Nat.le_refl _⟩];omega
      · rw [hw.cnt,hw.cnt,if_neg (fun hh=>h2 hh.1),if_neg (fun hh=>h2 hh.1)] at hlt
        rw [hw.cnt,if_neg (fun hh=>h2 hh.1),Int.add_zero]
        exact h.i3 s hs d hd (by omega)
    · have:=cD_const hw.vg s (d:=d-1) (e:=d) (by omega) (by omega)
      omega
  · rw [hw.cnt,if_neg (by omega),Int.add_zero]
    exact h.i5 d hd s hs
theorem FinS.lost (h:FinS c S h0 G Lf) {A':Nat→Nat→Bool} {s0:Nat} (hs0:s0<c.bs.length) (hb:c.bs.length≤12) (hh:c.hs.length≤8) (hh0:h0<c.hs.length) (hc:ct (fun h=>stT S h s0) h0+cD G s0 h0<ndR c s0 h0) (hl:Lost h0 S s0 h0 (fun _ _=>false) A' G Lf):StuckR c S:=by
  have pend:=fun a s (ha:A' a s=true)=>hl.pend a s rfl ha
  have mono:∀ (p:Nat→Bool),ct p (h0+1)≤ct p 8:=fun p=>by
    rw [← ct_below p (show h0+1≤8 by omega)]
    exact ct_le fun i _ hi=>by simp only [Bool.and_eq_true] at hi;exact hi.2
  have key:=stuck_short (N:=12) (M:=h0+1) (hands:=idF c S) (may:=fun h s=>(S h s).isNone) (need:=ndX c S) (left:=Lf) (G:=G) (A:=fun a s=>A' a s=true) (s0:=s0) (b0:=h0) ?_ (fun k hk=>h.hr k (by omega)) ?_ ?_ ?_ (by omega) (by omega) ?_ ?_ ?_ ?_
  · obtain⟨sm,k1,k2⟩:=key
    exact⟨h0,sm,hh0,k1,k2⟩
  · intro a s u hg
    have:=h.vg a s u hg
    refine⟨this.1,by omega,by omega,?_⟩
    show (S a s).isNone=true
    rw [this.2.2.2];rfl
  · intro a s u hg
    have:=h.vg a s u hg
    have h1:=cD_inc (by omega) hg (by omega)
    have h2:=h.i3 s this.2.2.1 u (by omega) (by omega)
    simp only [ndX,if_pos (show s<c.bs.length∧u<c.hs.length from ⟨this.2.2.1,by omega⟩)]
    refine Int.le_trans (mono _) ?_
    change cD G s u≤ndR c s u-ct (fun h=>stT S h s) u
    omega
  · simp only [ndX,if_pos (show s0<c.bs.length∧h0<c.hs.length from ⟨hs0,hh0⟩)]
    refine Int.lt_of_le_of_lt (mono _) ?_
    change cD G s0 h0<_
    omega
  · intro a u hg;exact (h.vg a s0 u hg).2.1
  · intro a s ha;exact⟨(pend a s ha).1.1,(pend a s ha).1.2.1⟩
  · intro a ha hm;exact hl.clo a ha (Option.isNone_iff_eq_none.1 hm)
  · intro a s u ha hg a' ha' hm;exact (pend a s ha).2.1 u hg a' ha' (Option.isNone_iff_eq_none.1 hm)
  · intro a s ha hg;exact (pend a s ha).2.2 hg
theorem FinS.done (h:FinS c S c.hs.length G Lf) (hh:c.hs.length≤8):feasR c S:=by
  refine⟨fun a s=>(G a s).isSome,fun a s hg=>?_,fun a ha=>?_,fun s hs d hd=>?_⟩
  · obtain⟨u,hu⟩:=Option.isSome_iff_exists.1 hg
    show (S a s).isNone=true
    rw [(h.vg a s u hu).2.2.2];rfl
  · have h1:=h.hr a ha
    have h2:=h.nn a ha
    change cH G a≤_
    omega
  · simp only [ndX]
    split
    · rename_i hsd
      have h1:=h.i5 d hsd.2 s hsd.1
      have h2:=cD_some h.vg s (d:=d) (by omega)
      omega
    · exact ct_nonneg _ _
end
open Go.Hall
theorem FS.cutL {x:FI} {H2 X Y:Heap} {A A0:Nat→Nat→Bool} {G G0:Nat→Nat→Option Nat} {Lf L0:Nat→Int} {S S0:Nat→Nat→Option Bool} (h:FS x (H2++X) A G Lf S) (k:FS x Y A0 G0 L0 S0) (hl:H2.length=Y.length):FS x H2 A G Lf S:=by
  exact h.cut ⟨by have:=rd_lt k.rr;omega,by have:=rd_lt k.ac;omega,by have:=rd_lt k.gc;omega,by have:=rd_lt k.fc;omega,by have:=k.llt;omega,by have:=k.alt;omega,by have:=k.glt;omega,by have:=k.slt;omega⟩
theorem Only.tail {x:FI} {A X Y:Heap} (h:Only x (A++X) Y) (h1:A.length≤x.aid) (h2:A.length≤x.gid) (h3:A.length≤x.lid):∃ X',Y=A++X'∧X'.length=X.length:=by
  have hl:Y.length=A.length+X.length:=by rw [h.1,List.length_append]
  refine⟨Y.drop A.length,?_,by simp;omega⟩
  have e:Y.take A.length=A:=by
    apply List.ext_getElem?
    intro k
    rcases Nat.lt_or_ge k A.length with hi|hi
    · rw [List.getElem?_take,if_pos hi,h.2 k (by omega) (by omega) (by omega),List.getElem?_append_left hi]
    · rw [List.getElem?_eq_none (by simp;omega),List.getElem?_eq_none (by omega)]
  rw [← e,List.length_take,Nat.min_eq_left (by omega),e]
  conv=>lhs;rw [← List.take_append_drop A.length Y,e]
theorem idF_le {c:Cv} {n:Nat} (hc:c.ok n) (S:Nat→Nat→Option Bool) (h:Nat):idF c S h≤12:=by
  have h0:=ct_nonneg (stT S h) c.bs.length
  simp only [idF]
  split
  · rename_i hlt
    have hcr:=(hc.hok h hlt).2.2
    rw [← Cv.h_eq hlt] at hcr
    simp only [handsF];split <;> omega
  · omega
theorem FinS.cap {c:Cv} {S:Nat→Nat→Option Bool} {h0:Nat} {G:Nat→Nat→Option Nat} {Lf:Nat→Int} (h:FinS c S h0 G Lf) {n:Nat} (hc:c.ok n):∀ k,k<8→0≤Lf k∧cH G k+Lf k≤100:=fun k hk=>⟨h.nn k hk,by rw [h.hr k hk];have:=idF_le hc S k;omega⟩
set_option maxHeartbeats 4000000 in
theorem c_finishes (H:Heap) (c:Cv) (p:Plc) (hp:CvAt H c p) (n:Nat) (hc:c.ok n) (hn:n≤12) (nid:Nat) (hgo:GoAt H (.slice nid 0 c.bs.length 1 false) c.hs.length (ndR c) c.bs.length) (sid:Nat) (S:Nat→Nat→Option Bool) (hS:∃ o,H[sid]?=some o∧PMap o (mS S)) (hid:∀ h,h<8→0≤idF c S h) :
    ACalls Try.prog F.ice_roster_finishes [.agg (rosV c p (.slice nid 0 c.bs.length 1 false) sid)] H (fun v h'=>∃ r:Bool,v=.bool r∧(r=true↔feasR c S)∧(r=false→StuckR c S)∧h'=H):=by
  have hp1:=hp.t
  have hp2:=rd_lt hp.b
  have hp3:=rd_lt hp.h
  have h8:=hc.hours
  have hlen:=hc.len
  have hnid:nid<H.length:=by obtain⟨id,e,h1,_⟩:=hgo;injection e with e1;omega
  have hsl:sid<H.length:=by obtain⟨o,so1,_⟩:=hS;exact (List.getElem?_eq_some_iff.1 so1).1
  have kg:=fun G=>c_giver (H++G) c p (hp.app G) n hc hn (.slice nid 0 c.bs.length 1 false) sid S (by simp [AV.sc];omega) (by simp [scal]) (by obtain⟨o,so1,so2⟩:=hS;exact⟨o,at_old G so1,so2⟩)
  have ks:=fun G (hh:∃ o,(H++G)[sid]?=some o∧PMap o (mS S)) s b hb=>c_sprayed (H++G) c p (hp.app G) (.slice nid 0 c.bs.length 1 false) sid S (by simp [AV.sc];omega) (by simp [scal]) hh s b hb
  simp only [rosV,Cv.av,List.cons_append,List.nil_append] at kg ks ⊢
  refine acalls_of ok_ice_roster_finishes rfl fun hcl=>?_
  unfold ac_ice_roster_finishes zo
  simp only [argsT,Nat.zero_add,Nat.reduceAdd]
  repeat (first|(with_reducible first|apply X1|apply X2|apply X8)|((with_reducible apply e_end);(simp;exact Rz))|((with_reducible apply O1);rfl;(simp (disch:=omega);exact Rz);exact Rz;(focus (first|(simp;done)|omega|(simp;omega)))))
  (with_reducible apply e_call);(simp;exact Rz);exact kg _
  rintro _ _ ⟨x,X,rfl,rfl,hF,rfl,x1,x2,x3,x4,x5⟩
  obtain⟨bx,hbx⟩:∃ bx,bx=AObj.cells [.slice p.tid p.toff p.tn 9 p.tex,.slice p.bid p.boff c.bs.length 3 p.bex,.slice p.hid p.hoff c.hs.length 5 p.hex,.int .i64 c.w1,.int .i64 c.w2,.int .i64 c.y1,.int .i64 c.y2,.int .i64 c.rate,.int .i64 c.lim,.int .i64 c.base,.slice nid 0 c.bs.length 1 false,.map x.sid] true:=⟨_,rfl⟩
  rw [List.append_assoc,← hbx] at hF
  rw [← hbx] at x1 x2 x3 x4 x5
  have hz:avL (fun s=>cD (fun _ _=>none) s 8) 12=[.int .i64 0,.int .i64 0,.int .i64 0,.int .i64 0,.int .i64 0,.int .i64 0,.int .i64 0,.int .i64 0,.int .i64 0,.int .i64 0,.int .i64 0,.int .i64 0]:=by
    have e:(fun s=>cD (fun _ _=>none) s 8)=fun _=>(0:Int):=by funext s;exact (sm_congr fun i _=>by simp).trans (sm_zero 8)
    rw [e];rfl
  repeat (first|(with_reducible first|apply X1|apply X2|apply X6|apply X8)|((with_reducible apply e_end);(simp;exact Rz))|((with_reducible apply O1);rfl;(simp (disch:=omega);exact Rz);exact Rz;(focus (first|(simp;done)|omega|(simp;omega)))))
  refine e_loop (ι:={ y:Nat × Heap × (Nat→Nat→Bool) × (Nat→Nat→Option Nat) × (Nat→Int) // y.1≤c.hs.length∧FS x (H++([bx]++y.2.1)) y.2.2.1 y.2.2.2.1 y.2.2.2.2 S∧FinS c S y.1 y.2.2.2.1 y.2.2.2.2 })
    (fun y=>[(1,.ptr H.length 0),(3,.fn (.func F.ice_roster_giver_2) [] [.ptr x.acid 0,.ptr x.fcid 0]),(4,.ptr (H.length+(y.1.2.1.length+1)) 0),(13,.int .i64 c.hs.length),(14,.int .i64 y.1.1)])
    (fun y=>H++(AObj.cells [.slice p.tid p.toff p.tn 9 p.tex,.slice p.bid p.boff c.bs.length 3 p.bex,.slice p.hid p.hoff c.hs.length 5 p.hex,.int .i64 c.w1,.int .i64 c.w2,.int .i64 c.y1,.int .i64 c.y2,.int .i64 c.rate,.int .i64 c.lim,.int .i64 c.base,.slice nid 0 c.bs.length 1 false,.map x.sid] true :: (y.1.2.1++[.cells (avL (fun s=>cD y.1.2.2.2.1 s 8) 12) true]))) (fun y=>c.hs.length-y.1.1) ⟨(0,X,fun _ _=>false,fun _ _=>none,idF c S),by simp,hF,FinS.start hid⟩ ?_ ?_
  · refine .inl ?_
    dsimp only
    rw [hz];simp
  · rintro⟨⟨h,ya,aa1,gg1,ll1⟩,hh,hF1,hS1⟩
    dsimp only at hh hF1 hS1 ⊢
    by_cases hlt:h<c.hs.length
    · have hlt2:(h:Int)<c.hs.length:=by omega
      repeat (first|(with_reducible first|apply X1|apply X2|apply X5|apply X6|apply X7|apply X8)|((with_reducible apply e_end);(simp;exact Rz))|((with_reducible apply O1);rfl;(simp (disch:=omega) [hlt2];exact Rz);exact Rz;(focus (first|(simp;done)|omega|(simp;omega))))|((with_reducible apply Z9);(simp (disch:=omega) [hlt2];exact Rz)))
      refine e_loop (ι:={ y:Nat × Heap × (Nat→Nat→Bool) × (Nat→Nat→Option Nat) × (Nat→Int) // y.1≤c.bs.length∧FS x (H++([bx]++y.2.1)) y.2.2.1 y.2.2.2.1 y.2.2.2.2 S∧FinS c S h y.2.2.2.1 y.2.2.2.2∧∀ s,s<y.1→ndR c s h≤ct (fun h=>stT S h s) h+cD y.2.2.2.1 s h })
        (fun y=>[(1,.ptr H.length 0),(3,.fn (.func F.ice_roster_giver_2) [] [.ptr x.acid 0,.ptr x.fcid 0]),(4,.ptr (H.length+(y.1.2.1.length+1)) 0),(5,.int .i64 h),(13,.int .i64 c.hs.length),(14,.int .i64 h),(21,.int .i64 c.bs.length),(22,.int .i64 y.1.1)])
        (fun y=>H++(AObj.cells [.slice p.tid p.toff p.tn 9 p.tex,.slice p.bid p.boff c.bs.length 3 p.bex,.slice p.hid p.hoff c.hs.length 5 p.hex,.int .i64 c.w1,.int .i64 c.w2,.int .i64 c.y1,.int .i64 c.y2,.int .i64 c.rate,.int .i64 c.lim,.int .i64 c.base,.slice nid 0 c.bs.length 1 false,.map x.sid] true :: (y.1.2.1++[.cells (avL (fun s=>cD y.1.2.2.2.1 s 8) 12) true]))) (fun y=>c.bs.length-y.1.1) ⟨(0,ya,aa1,gg1,ll1),by simp,hF1,hS1,fun s hs=>by omega⟩ ?_ ?_
      · exact .inl (by simp)
      · rintro⟨⟨i,yb,aa2,gg2,ll2⟩,hi,hF2,hS2,hm2⟩
        dsimp only at hi hF2 hS2 hm2 ⊢
        by_cases hil:i<c.bs.length
        · have hil2:(i:Int)<c.bs.length:=by omega
          repeat (first|(with_reducible first|apply X1|apply X2|apply X5|apply X6|apply X8)|((with_reducible apply e_end);(simp;exact Rz))|((with_reducible apply O1);rfl;(simp (disch:=omega) [hil2];exact Rz);exact Rz;(focus (first|(simp;done)|omega|(simp;omega))))|((with_reducible apply Z9);(simp (disch:=omega) [hil2];exact Rz)))
          refine e_loop (ι:={ y:Heap × (Nat→Nat→Bool) × (Nat→Nat→Option Nat) × (Nat→Int) // FS x (H++([bx]++y.1)) y.2.1 y.2.2.1 y.2.2.2 S∧FinS c S h y.2.2.1 y.2.2.2∧∀ s,s<i→ndR c s h≤ct (fun h=>stT S h s) h+cD y.2.2.1 s h })
            (fun y=>[(1,.ptr H.length 0),(3,.fn (.func F.ice_roster_giver_2) [] [.ptr x.acid 0,.ptr x.fcid 0]),(4,.ptr (H.length+(y.1.1.length+1)) 0),(5,.int .i64 h),(6,.int .i64 i),(13,.int .i64 c.hs.length),(14,.int .i64 h),(21,.int .i64 c.bs.length),(22,.int .i64 i)])
            (fun y=>H++(AObj.cells [.slice p.tid p.toff p.tn 9 p.tex,.slice p.bid p.boff c.bs.length 3 p.bex,.slice p.hid p.hoff c.hs.length 5 p.hex,.int .i64 c.w1,.int .i64 c.w2,.int .i64 c.y1,.int .i64 c.y2,.int .i64 c.rate,.int .i64 c.lim,.int .i64 c.base,.slice nid 0 c.bs.length 1 false,.map x.sid] true :: (y.1.1++[.cells (avL (fun s=>cD y.1.2.2.1 s 8) 12) true]))) (fun y=>(ndR c i h-(ct (fun h=>stT S h i) h+cD y.1.2.2.1 i h)).toNat) ⟨(yb,aa2,gg2,ll2),hF2,hS2,hm2⟩ ?_ ?_
          · exact .inl (by simp)
          · rintro⟨⟨yc,aa3,gg3,ll3⟩,hF3,hS3,hm3⟩
            dsimp only at hF3 hS3 hm3 ⊢
            have hb8:h<8:=by omega
            have hi12:i<12:=by omega
            have hi122:(i:Int)<12:=by omega
            have hl1:i+1≤12:=hi12
            obtain⟨nid',hne,hnl,hng⟩:=hgo
            obtain rfl:nid=nid':=by injection hne
            obtain⟨rid,r1,r2,r3⟩:=hng i hil
            have r4:=r3 h hlt
            have hb1:=ct_nonneg (fun h=>stT S h i) h
            have hb2:=ct_top (fun h=>stT S h i) h
            have hb3:0≤cD gg3 i 8:=ct_nonneg _ _
            have hb4:cD gg3 i 8≤8:=ct_top _ _
            have hcc:cD gg3 i h=cD gg3 i 8:=cD_const hS3.vg i (Nat.le_refl _) (by omega)
            have h1:=avL_one (f:=fun s=>cD gg3 s 8) hi12
            have hSo:∀ G,∃ o,(H++G)[x.sid]?=some o∧PMap o (mS S):=fun G=>by obtain⟨o,so1,so2⟩:=hS;exact⟨o,at_old G so1,so2⟩
            repeat (first|(with_reducible first|apply X1|apply X6|apply Y9)|((first|((with_reducible apply P1);rfl)|((with_reducible apply P2);rfl));(simp (disch:=omega);exact Rz);exact Rz;(focus (first|(simp;done)|omega|(simp;omega)))))
            (with_reducible apply d_call);(simp;exact Rz);exact ks _ (hSo _) i h (by omega);(focus (first|(simp;done)|(simp;omega)))
            by_cases hnd:ndR c i h≤ct (fun h=>stT S h i) h+cD gg3 i 8
            · repeat (first|(with_reducible first|apply X2|apply X4|apply X8|apply Y1|apply Y4|apply Y6)|((with_reducible apply q_block_other);decide)|((with_reducible first|apply e_end|apply d_end);(simp;exact Rz))|((first|((with_reducible apply O1);rfl)|((with_reducible apply P1);rfl));(simp (disch:=omega) [hi12,hi122,avL_length,hl1,h1,rd_old _ hnl,r1,rd_old _ r2,r4,hil,hil2,hlt,hlt2,hnd];exact Rz);exact Rz;(focus (first|(simp;done)|omega|(simp;omega))))|((with_reducible apply Z9);(simp (disch:=omega) [hi12,hi122,avL_length,hl1,h1,rd_old _ hnl,r1,rd_old _ r2,r4,hil,hil2,hlt,hlt2,hnd];exact Rz))|((with_reducible apply P6);rfl;(simp (disch:=omega) [hi12,hi122,avL_length,hl1,h1,rd_old _ hnl,r1,rd_old _ r2,r4,hil,hil2,hlt,hlt2,hnd];exact Rz);exact Rz;(focus (first|(simp [pr];done)|(simp [pr];omega)))))
              refine q_again ⟨(i+1,yc,aa3,gg3,ll3),hil,hF3,hS3,fun s hs=>?_⟩ (by dsimp only;omega) (.inl (by simp))
              by_cases hsi:s=i
              · subst hsi;rw [hcc];exact hnd
              · exact hm3 s (by omega)
            · have hF4:FS x (H++([AObj.cells [.slice p.tid p.toff p.tn 9 p.tex,.slice p.bid p.boff c.bs.length 3 p.bex,.slice p.hid p.hoff c.hs.length 5 p.hex,.int .i64 c.w1,.int .i64 c.w2,.int .i64 c.y1,.int .i64 c.y2,.int .i64 c.rate,.int .i64 c.lim,.int .i64 c.base,.slice nid 0 c.bs.length 1 false,.map x.sid] true]++(yc++[.cells (avL (fun s=>cD gg3 s 8) 12) true]))) aa3 gg3 ll3 S:=by
                have:=hF3.app [.cells (avL (fun s=>cD gg3 s 8) 12) true]
                rw [hbx] at this
                simpa using this
              repeat (first|(with_reducible first|apply X1|apply X2|apply X5|apply X8)|((with_reducible apply d_end);(simp;exact Rz))|((first|((with_reducible apply O1);rfl)|((with_reducible apply P1);rfl));(simp (disch:=omega) [hi12,hi122,avL_length,hl1,h1,rd_old _ hnl,r1,rd_old _ r2,r4,hil,hil2,hlt,hlt2,hnd];exact Rz);exact Rz;(focus (first|(simp;done)|omega|(simp;omega))))|((with_reducible apply W3);(simp (disch:=omega) [hi12,hi122,avL_length,hl1,h1,rd_old _ hnl,r1,rd_old _ r2,r4,hil,hil2,hlt,hlt2,hnd];exact Rz))|((with_reducible apply P6);rfl;(simp (disch:=omega) [hi12,hi122,avL_length,hl1,h1,rd_old _ hnl,r1,rd_old _ r2,r4,hil,hil2,hlt,hlt2,hnd];exact Rz);exact Rz;(focus (first|(simp [pr];done)|(simp [pr];omega)))))
              (with_reducible apply e_callV);(simp;exact Rz);(simp;exact Rz);exact c_give x h c.bs.length (by omega) (by omega) S _ aa3 gg3 ll3 i h hF4 hS3.vg (hS3.cap hc) (Nat.le_refl _) hil
              rintro v h' ⟨hO,A',hres⟩
              rw [← hbx] at hO
              have hO2:Only x ((H++([bx]++yc))++[.cells (avL (fun s=>cD gg3 s 8) 12) true]) h':=by simpa using hO
              obtain⟨y',rfl,hO3⟩:=hO2.split hF3.alt hF3.glt hF3.llt
              have hO4:Only x ((H++[bx])++yc) y':=by simpa using hO3
              obtain⟨yd,rfl,hyd⟩:=hO4.tail x1 x2 x3
              rcases hres with⟨gg4,ll4,rfl,hF5,hw⟩|⟨rfl,hF5,hlo⟩
              · have hF6:=hF5.cutL hF3 (by simp [hyd])
                have h1':=avL_one (f:=fun s=>cD gg3 s 8) hi12
                have hcn:cD gg4 i 8=cD gg3 i 8+1:=by rw [hw.cnt,if_pos ⟨rfl,by omega⟩]
                have h2:=avL_put (f:=fun s=>cD gg3 s 8) (g:=fun s=>cD gg4 s 8) (n:=12) (i:=i) (x:=cD gg3 i 8+1) hi12 (fun j=>by
                  by_cases hj:j=i
                  · subst hj;rw [if_pos rfl];exact hcn
                  · rw [if_neg hj,hw.cnt,if_neg (fun hh=>hj hh.1),Int.add_zero])
                rw [hbx,List.append_assoc,List.append_assoc,← hyd]
                repeat (first|(with_reducible first|apply X2|apply X5|apply X8|apply Y2)|((with_reducible apply e_end);(simp;exact Rz))|((first|((with_reducible apply O1);rfl)|((with_reducible apply O2);rfl));(simp (disch:=omega) [hi12,hi122,avL_length,hl1,h1,-splice,h2];exact Rz);exact Rz;(focus (first|(simp;done)|omega|(simp;omega))))|((with_reducible apply W3);(simp (disch:=omega) [hi12,hi122,avL_length,hl1,h1,-splice,h2];exact Rz)))
                have hcn2:cD gg4 i h=cD gg3 i h+1:=by rw [hw.cnt,if_pos ⟨rfl,Nat.le_refl _⟩]
                refine q_again ⟨(yd,A',gg4,ll4),by rw [hbx] at hF6;simpa using hF6,hS3.give (by rw [hcc];omega) hw,fun s hs=>?_⟩ (by dsimp only;omega) (.inl (by simp))
                rw [hw.cnt,if_neg (by omega),Int.add_zero]
                exact hm3 s hs
              · have hst:=hS3.lost hil (by omega) h8.2 hlt (by rw [hcc];omega) hlo
                have hnf:¬ feasR c S:=hst.no h8.2
                rw [hbx,List.append_assoc,List.append_assoc]
                repeat (first|(with_reducible first|apply X1|apply X2|apply X3|apply X8|apply X9|apply Y3|apply Y5|apply Y8)|((with_reducible apply e_end);(simp;exact Rz))|((with_reducible apply O1);rfl;(simp (disch:=omega);exact Rz);exact Rz;(focus (first|(simp;done)|omega|(simp;omega))))|((with_reducible apply Z9);(simp (disch:=omega);exact Rz)))
                exact q_drop (.inr rfl) (by simp;exact Rz) (by simp) ⟨false,rfl,by simp;exact hnf,fun _=>hst,rfl⟩
        · have hil2:¬ (i:Int)<c.bs.length:=by omega
          obtain rfl:i=c.bs.length:=by omega
          repeat (first|(with_reducible first|apply X1|apply X2|apply X4|apply X8|apply Y1|apply Y2|apply Y4|apply Y6|apply Y7)|((with_reducible apply e_end);(simp;exact Rz))|((with_reducible apply O1);rfl;(simp (disch:=omega) [hil2];exact Rz);exact Rz;(focus (first|(simp;done)|omega|(simp;omega))))|((with_reducible apply W3);(simp (disch:=omega) [hil2];exact Rz)))
          exact q_again ⟨(h+1,yb,aa2,gg2,ll2),hlt,hF2,hS2.next hm2⟩ (by dsimp only;omega) (.inl (by simp))
    · have hlt2:¬ (h:Int)<c.hs.length:=by omega
      obtain rfl:h=c.hs.length:=by omega
      repeat (first|(with_reducible first|apply X1|apply X2|apply X3|apply X4|apply X8|apply Y1|apply Y4|apply Y6)|((with_reducible apply e_end);(simp;exact Rz))|((with_reducible apply O1);rfl;(simp (disch:=omega) [hlt2];exact Rz);exact Rz;(focus (first|(simp;done)|omega|(simp;omega))))|((with_reducible apply W3);(simp (disch:=omega) [hlt2];exact Rz)))
      refine q_drop (.inr rfl) (by simp;exact Rz) (by simp) ⟨true,rfl,by simp;exact hS1.done h8.2,fun h=>(by cases h),rfl⟩
open Go.Hall
def setS (S:Nat→Nat→Option Bool) (h s:Nat) (b:Bool):Nat→Nat→Option Bool:=fun h' s'=>if h'=h∧s'=s then some b else S h' s'
theorem upd_mS (S:Nat→Nat→Option Bool) (h s:Nat) (b:Bool):updM (mS S) ((h:Int),(s:Int)) (.bool b)=mS (setS S h s b):=by
  funext k
  simp only [updM,mS,setS]
  by_cases hk:k=((h:Int),(s:Int))
  · obtain⟨h1,h2,h3⟩:=key_eq.1 hk
    rw [if_pos hk,if_pos h1,if_pos ⟨h2,h3⟩];rfl
  · rw [if_neg hk]
    by_cases hi:inK k
    · have:¬ (k.1.toNat=h∧k.2.toNat=s):=fun hh=>hk (key_eq.2 ⟨hi,hh⟩)
      simp only [if_pos hi,if_neg this]
    · simp only [if_neg hi]
theorem setS_put (S:Nat→Nat→Option Bool) (h s:Nat) (b d:Bool):setS (setS S h s b) h s d=setS S h s d:=by
  funext a e;simp only [setS];split <;> rfl
theorem mS_sc {n:Nat} {S:Nat→Nat→Option Bool} {k:Int × Int} {v:AV} (h:mS S k=some v):v.sc n=true:=by
  simp only [mS] at h
  split at h
  · cases hs:S k.1.toNat k.2.toNat with
    | none=>rw [hs] at h;cases h
    | some b=>rw [hs] at h;injection h with h;rw [← h];rfl
  · cases h
theorem CvAt.setM {H:Heap} {c:Cv} {p:Plc} (h:CvAt H c p) {j:Nat} {o:AObj} {f:Int × Int→Option AV} (ho:H[j]?=some o) (hp:PMap o f) (o':AObj):CvAt (H.set j o') c p :=
  ⟨by have:=h.t;simp;omega,by rw [rd_set_ne (not_map h.b ho hp)];exact h.b,by rw [rd_set_ne (not_map h.h ho hp)];exact h.h⟩
theorem GoAt.setM {X:Heap} {v:AV} {nb:Nat} {R:Nat→Nat→Int} {m:Nat} (h:GoAt X v nb R m) (hnb:1≤nb) {j:Nat} {o:AObj} {f:Int × Int→Option AV} (ho:X[j]?=some o) (hp:PMap o f) (o':AObj):GoAt (X.set j o') v nb R m:=by
  obtain⟨id,e,h1,h2⟩:=h
  refine⟨id,e,by simp;omega,fun k hk=>?_⟩
  obtain⟨rid,h3,h4,h5⟩:=h2 k hk
  exact⟨rid,by rw [rd_set_ne (not_map h3 ho hp)];exact h3,by simp;omega,fun i hi=>by rw [rd_set_ne (not_map (h5 i hi) ho hp)];exact h5 i hi⟩
theorem q_dropE {H H2 G:Heap} {t:List (Nat × AV)} {rs:List AR} {R:AV→Heap→Prop} {e:Exit} {v:AV} (hc:Chg2 H H2) (he:e=.normal∨e=.ret) (hv:Red (resV ⟨t,H2++G⟩ rs) (some v)) (hs:v.sc H.length=true) (hr:R v H2):EQ (Post H rs R) e t (H2++G) :=
  q_post he hv (le_chg2 hc (le_drop (by simp [hs,lk,hc.1]))) hr
theorem stT_put {S:Nat→Nat→Option Bool} {h s:Nat} (b:Bool):stT (setS S h s b)=fun a e=>if a=h∧e=s then b else stT S a e:=by
  funext a e;simp only [stT,setS];split <;> rfl
theorem idF_put {c:Cv} {S:Nat→Nat→Option Bool} {h s:Nat} (hh:h<c.hs.length) (hs:s<c.bs.length) (hn:S h s=none) (b:Bool) (k:Nat):idF c (setS S h s b) k=idF c S k-if k=h∧b=true then 1 else 0:=by
  simp only [idF]
  by_cases hk:k<c.hs.length
  · rw [if_pos hk,if_pos hk]
    have e:ct (stT (setS S h s b) k) c.bs.length=ct (stT S k) c.bs.length+if k=h∧b=true then 1 else 0:=by
      by_cases hkh:k=h
      · subst hkh
        have h0:stT S k s=false:=by simp [stT,hn]
        have o:=sm_one s c.bs.length
        rw [if_pos hs] at o
        cases b with
        | false =>
          simp only [Bool.false_eq_true,and_false,if_false,Int.add_zero]
          refine ct_congr fun i _=>?_
          rw [stT_put];dsimp only
          split
          · rename_i h2;rw [h2.2,h0]
          · rfl
        | true =>
          simp only [and_self,if_true]
          rw [← o]
          simp only [ct]
          rw [← sm_add]
          refine sm_congr fun i _=>?_
          rw [stT_put];dsimp only
          by_cases h2:i=s
          · subst h2;simp [h0]
          · simp [h2]
      · rw [if_neg (fun x=>hkh x.1),Int.add_zero]
        refine ct_congr fun i _=>?_
        rw [stT_put];dsimp only
        rw [if_neg (fun x=>hkh x.1)]
    rw [e];omega
  · rw [if_neg hk,if_neg hk,if_neg (by rintro⟨x,_⟩;omega)];omega
set_option maxHeartbeats 4000000 in
theorem c_settle (H:Heap) (c:Cv) (p:Plc) (hp:CvAt H c p) (n:Nat) (hc:c.ok n) (hn:n≤12) (nid:Nat) (hgo:GoAt H (.slice nid 0 c.bs.length 1 false) c.hs.length (ndR c) c.bs.length) (sid:Nat) (S:Nat→Nat→Option Bool) (hS:∃ o,H[sid]?=some o∧PMap o (mS S)) (hid:∀ h,h<8→0≤idF c S h) (h s:Nat) (hh:h<c.hs.length) (hs:s<c.bs.length) (hSn:S h s=none) :
    ACalls Try.prog F.ice_roster_settle [.agg (rosV c p (.slice nid 0 c.bs.length 1 false) sid),.int .i64 h,.int .i64 s] H (fun v h'=>∃ (r:Bool) (o':AObj),v=.bool r∧h'=H.set sid o'∧PMap o' (mS (setS S h s r))∧(r=true↔0<idF c S h∧ct (fun a=>stT S a s) (c.hs.length-1)<ndR c s (c.hs.length-1)∧feasR c (setS S h s true))):=by
  have hp1:=hp.t
  have hp2:=rd_lt hp.b
  have hp3:=rd_lt hp.h
  have h8:=hc.hours
  have hlen:=hc.len
  have hnid:nid<H.length:=by obtain⟨id,e,h1,_⟩:=hgo;injection e with e1;omega
  obtain⟨o,so1,so2⟩:=hS
  have hsl:sid<H.length:=(List.getElem?_eq_some_iff.1 so1).1
  have ki:=fun G=>c_idle (H++G) c p (hp.app G) n hc hn (.slice nid 0 c.bs.length 1 false) sid S (by simp [AV.sc];omega) (by simp [scal]) ⟨o,at_old G so1,so2⟩
  have ks:=fun G s b hb=>c_sprayed (H++G) c p (hp.app G) (.slice nid 0 c.bs.length 1 false) sid S (by simp [AV.sc];omega) (by simp [scal]) ⟨o,at_old G so1,so2⟩ s b hb
  have kf:=fun G o1 (ho1:PMap o1 (mS (setS S h s true))) (h0:0<idF c S h)=>c_finishes (H.set sid o1++G) c p ((hp.setM so1 so2 o1).app G) n hc hn nid ((hgo.setM (by omega) so1 so2 o1).app G) sid (setS S h s true) ⟨o1,at_old G (by rw [List.getElem?_set,if_pos rfl,if_pos hsl]),ho1⟩ (fun k hk=>by rw [idF_put hh hs hSn];have:=hid k hk;by_cases e:k=h;(· rw [if_pos ⟨e,rfl⟩];subst e;omega);(· rw [if_neg (fun x=>e x.1)];omega))
  have h1:=avL_one (f:=idF c S) (n:=8) (i:=h) (by omega)
  have hb8:h<8:=by omega
  have avI:(avL (idF c S) 8)[h]?=some (.int .i64 (idF c S h)):=by simp [avL,hb8]
  have hb82:(h:Int)<8:=by omega
  have hl1:h+1≤8:=hb8
  have hs2:(s:Int)<c.bs.length:=by omega
  have hla:((c.hs.length-1:Nat):Int)=(c.hs.length:Int)-1:=by omega
  have hlb:c.hs.length-1<c.hs.length:=by omega
  obtain⟨nid',hne,hnl,hng⟩:=hgo
  obtain rfl:nid=nid':=by injection hne
  obtain⟨rid,r1,r2,r3⟩:=hng s hs
  have r4:=r3 (c.hs.length-1) hlb
  have ks:=fun G=>ks G s (c.hs.length-1) (by omega)
  simp only [rosV,Cv.av,List.cons_append,List.nil_append,hla] at ki ks kf ⊢
  refine acalls_of ok_ice_roster_settle rfl fun hcl=>?_
  unfold ac_ice_roster_settle zo
  simp only [argsT,Nat.zero_add,Nat.reduceAdd]
  repeat (first|(with_reducible first|apply X1|apply X2|apply X8|apply Y9)|((with_reducible apply e_end);(simp;exact Rz))|((first|((with_reducible apply O1);rfl)|((with_reducible apply O2);rfl)|((with_reducible apply P2);rfl));(simp (disch:=omega);exact Rz);exact Rz;(focus (first|(simp;done)|omega|(simp;omega)))))
  (with_reducible apply d_call);(simp;exact Rz);exact ki _;(focus (first|(simp;done)|(simp;omega)))
  by_cases hi0:0<idF c S h
  · repeat (first|((first|((with_reducible apply P1);rfl)|((with_reducible apply P2);rfl));(simp (disch:=omega) [hb8,hb82,avL_length,hl1,h1,hi0,avI];exact Rz);exact Rz;(focus (first|(simp;done)|omega|(simp;omega))))|((with_reducible apply Z8);(simp (disch:=omega) [hb8,hb82,avL_length,hl1,h1,hi0,avI];exact Rz)))
    (with_reducible apply d_call);(simp;exact Rz);exact ks _;(focus (first|(simp;done)|(simp;omega)))
    by_cases hnd:ct (fun h=>stT S h s) (c.hs.length-1)<ndR c s (c.hs.length-1)
    · repeat (first|(with_reducible first|apply X1|apply X2|apply X8)|((with_reducible apply d_end);(simp;exact Rz))|((first|((with_reducible apply O1);rfl)|((with_reducible apply P1);rfl));(simp (disch:=omega) [hs,hs2,hlb,hnd,hla,rd_old _ hnl,r1,rd_old _ r2,r4];exact Rz);exact Rz;(focus (first|(simp;done)|omega|(simp;omega))))|((with_reducible first|apply Z8|apply Z9);(simp (disch:=omega) [hs,hs2,hlb,hnd,hla,rd_old _ hnl,r1,rd_old _ r2,r4];exact Rz))|((with_reducible apply P6);rfl;(simp (disch:=omega) [hs,hs2,hlb,hnd,hla,rd_old _ hnl,r1,rd_old _ r2,r4];exact Rz);exact Rz;(focus (first|(simp [pr];done)|(simp [pr];omega)))))
      refine e_putM (k:=((h:Int),(s:Int))) (v:=.bool true) (f:=mS S) (by simp;exact Rz) (by simp;exact Rz) (by simp;exact Rz) (at_old _ so1) so2 ?_
      intro o1 ho1
      rw [upd_mS] at ho1
      rw [set_old hsl]
      have hsl1:sid<(H.set sid o1).length:=by simpa using hsl
      have hlen1:(H.set sid o1).length=H.length:=by simp
      have kf1:=fun G=>kf G o1 ho1 hi0
      have hg1:(H.set sid o1)[sid]?=some o1:=by rw [List.getElem?_set,if_pos rfl,if_pos hsl]
      have hss:∀ o2,(H.set sid o1).set sid o2=H.set sid o2:=fun o2=>by rw [List.set_set]
      have hcs:Chg2 H (H.set sid o1):=chg2_set H sid o1 (ho1.sc fun _ _ hk=>mS_sc hk)
      generalize hHa:H.set sid o1=Ha at *
      rw [← hlen1]
      repeat (first|(with_reducible first|apply X1|apply X2|apply X8)|((with_reducible apply e_end);(simp;exact Rz))|((with_reducible apply O1);rfl;(simp (disch:=omega);exact Rz);exact Rz;(focus (first|(simp;done)|omega|(simp;omega)))))
      (with_reducible apply e_call);(simp;exact Rz);exact kf1 _
      rintro _ _ ⟨r,rfl,hr,_,rfl⟩
      cases r with
      | true =>
        repeat (first|(with_reducible first|apply X1|apply X2|apply X3|apply X8|apply X9)|((with_reducible apply e_end);(simp;exact Rz))|((with_reducible apply O1);rfl;(simp (disch:=omega);exact Rz);exact Rz;(focus (first|(simp;done)|omega|(simp;omega))))|((with_reducible apply Z9);(simp (disch:=omega);exact Rz)))
        exact q_dropE hcs (.inr rfl) (by simp;exact Rz) (by simp) ⟨true,o1,rfl,hHa.symm,ho1,by simp [hi0,hnd,hr.1 rfl]⟩
      | false =>
        repeat (first|(with_reducible first|apply X1|apply X2|apply X5|apply X8)|((with_reducible apply e_end);(simp;exact Rz))|((with_reducible apply O1);rfl;(simp (disch:=omega);exact Rz);exact Rz;(focus (first|(simp;done)|omega|(simp;omega))))|((with_reducible apply W3);(simp (disch:=omega);exact Rz)))
        refine e_putM (k:=((h:Int),(s:Int))) (v:=.bool false) (f:=mS (setS S h s true)) (by simp;exact Rz) (by simp;exact Rz) (by simp;exact Rz) (at_old _ hg1) ho1 ?_
        intro o2 ho2
        rw [upd_mS,setS_put] at ho2
        rw [set_old hsl1,hss]
        repeat (first|(with_reducible first|apply X1|apply X2|apply X3|apply X8)|((with_reducible apply e_end);(simp;exact Rz))|((with_reducible apply O1);rfl;(simp (disch:=omega);exact Rz);exact Rz;(focus (first|(simp;done)|omega|(simp;omega)))))
        exact q_dropE (chg2_set H sid o2 (ho2.sc fun _ _ hk=>mS_sc hk)) (.inr rfl) (by simp;exact Rz) (by simp) ⟨false,o2,rfl,rfl,ho2,by simp;exact fun _ _ hf=>absurd (hr.2 hf) (by simp)⟩
    · repeat (first|(with_reducible first|apply X1|apply X2|apply X5|apply X8)|((with_reducible apply d_end);(simp;exact Rz))|((first|((with_reducible apply O1);rfl)|((with_reducible apply P1);rfl));(simp (disch:=omega) [hs,hs2,hlb,hnd,hla,rd_old _ hnl,r1,rd_old _ r2,r4];exact Rz);exact Rz;(focus (first|(simp;done)|omega|(simp;omega))))|((with_reducible apply Z8);(simp (disch:=omega) [hs,hs2,hlb,hnd,hla,rd_old _ hnl,r1,rd_old _ r2,r4];exact Rz))|((with_reducible apply W3);(simp (disch:=omega) [hs,hs2,hlb,hnd,hla,rd_old _ hnl,r1,rd_old _ r2,r4];exact Rz))|((with_reducible apply P6);rfl;(simp (disch:=omega) [hs,hs2,hlb,hnd,hla,rd_old _ hnl,r1,rd_old _ r2,r4];exact Rz);exact Rz;(focus (first|(simp [pr];done)|(simp [pr];omega)))))
      refine e_putM (k:=((h:Int),(s:Int))) (v:=.bool false) (f:=mS S) (by simp;exact Rz) (by simp;exact Rz) (by simp;exact Rz) (at_old _ so1) so2 ?_
      intro o' ho'
      rw [upd_mS] at ho'
      rw [set_old hsl]
      repeat (first|(with_reducible first|apply X1|apply X2|apply X3|apply X8)|((with_reducible apply e_end);(simp;exact Rz))|((with_reducible apply O1);rfl;(simp (disch:=omega);exact Rz);exact Rz;(focus (first|(simp;done)|omega|(simp;omega)))))
      exact q_dropE (chg2_set H sid o' (ho'.sc fun _ _ hk=>mS_sc hk)) (.inr rfl) (by simp;exact Rz) (by simp) ⟨false,o',rfl,rfl,ho',by simp [hnd]⟩
  · repeat (first|(with_reducible first|apply X1|apply X2|apply X5|apply X8)|((with_reducible apply d_end);(simp;exact Rz))|((first|((with_reducible apply O1);rfl)|((with_reducible apply P1);rfl));(simp (disch:=omega) [hb8,hb82,avL_length,hl1,h1,hi0,avI];exact Rz);exact Rz;(focus (first|(simp;done)|omega|(simp;omega))))|((with_reducible apply Z5);(simp (disch:=omega) [hb8,hb82,avL_length,hl1,h1,hi0,avI];exact Rz))|((with_reducible apply W3);(simp (disch:=omega) [hb8,hb82,avL_length,hl1,h1,hi0,avI];exact Rz)))
    refine e_putM (k:=((h:Int),(s:Int))) (v:=.bool false) (f:=mS S) (by simp;exact Rz) (by simp;exact Rz) (by simp;exact Rz) (at_old _ so1) so2 ?_
    intro o' ho'
    rw [upd_mS] at ho'
    rw [set_old hsl]
    repeat (first|(with_reducible first|apply X1|apply X2|apply X3|apply X8)|((with_reducible apply e_end);(simp;exact Rz))|((with_reducible apply O1);rfl;(simp (disch:=omega);exact Rz);exact Rz;(focus (first|(simp;done)|omega|(simp;omega)))))
    exact q_dropE (chg2_set H sid o' (ho'.sc fun _ _ hk=>mS_sc hk)) (.inr rfl) (by simp;exact Rz) (by simp) ⟨false,o',rfl,rfl,ho',by simp [hi0]⟩
open Go.Hall
theorem ct_less {p:Nat→Bool} {n s:Nat} (hs:s<n) (hp:p s=true):ct (fun i=>p i && !decide (i=s)) n+1=ct p n:=by
  have o:=sm_one s n
  rw [if_pos hs] at o
  rw [← o]
  simp only [ct]
  rw [← sm_add]
  refine sm_congr fun i _=>?_
  by_cases h2:i=s
  · subst h2;simp [hp]
  · simp [h2]
theorem ct_same {p:Nat→Bool} {n s:Nat} (hp:n≤s):ct (fun i=>p i && !decide (i=s)) n=ct p n:=ct_congr fun i hi=>by
  simp [show ¬ i=s by omega]
theorem stT_off {S:Nat→Nat→Option Bool} {h s:Nat} (hn:S h s=none):stT (setS S h s false)=stT S:=by
  rw [stT_put]
  funext a e
  split
  · rename_i x;rw [x.1,x.2];simp [stT,hn]
  · rfl
theorem stT_col {S:Nat→Nat→Option Bool} {h s:Nat} (hn:S h s=none) (d:Nat):ct (fun a=>stT (setS S h s true) a s) d=ct (fun a=>stT S a s) d+if h<d then 1 else 0:=by
  have o:=sm_one h d
  rw [← o]
  simp only [ct]
  rw [← sm_add]
  refine sm_congr fun i _=>?_
  rw [stT_put];dsimp only
  by_cases h2:i=h
  · subst h2;simp [stT,hn]
  · simp [h2]
theorem stT_else {S:Nat→Nat→Option Bool} {h s e:Nat} (b:Bool) (he:e≠s) (d:Nat):ct (fun a=>stT (setS S h s b) a e) d=ct (fun a=>stT S a e) d:=ct_congr fun i _=>by
  rw [stT_put];simp [he]
section
variable {c:Cv} {S:Nat→Nat→Option Bool} {h s:Nat} {P:Nat→Nat→Bool}
theorem feas_off (hh:h<c.hs.length) (hs:s<c.bs.length) (hn:S h s=none)
    (h1:∀ a e,P a e=true→(S a e).isNone=true) (h2:∀ a,a<8→ct (P a) 12≤idF c S a) (h3:∀ e,e<12→∀ d,d<8→ndX c S e d≤ct (fun a=>P a e) d) (hP:P h s=false):feasR c (setS S h s false):=by
  refine⟨P,fun a e ha=>?_,fun a ha=>?_,fun e he d hd=>?_⟩
  · show (setS S h s false a e).isNone=true
    simp only [setS]
    split
    · rename_i x;rw [x.1,x.2,hP] at ha;cases ha
    · exact h1 a e ha
  · rw [idF_put hh hs hn];simpa using h2 a ha
  · have:=h3 e he d hd
    simp only [ndX,stT_off hn] at this ⊢
    exact this
theorem feas_on (hh:h<c.hs.length) (hs:s<c.bs.length) (hs12:s<12) (hn:S h s=none)
    (h1:∀ a e,P a e=true→(S a e).isNone=true) (h2:∀ a,a<8→ct (P a) 12≤idF c S a) (h3:∀ e,e<12→∀ d,d<8→ndX c S e d≤ct (fun a=>P a e) d) (hP:P h s=true):feasR c (setS S h s true):=by
  refine⟨fun a e=>P a e && !(decide (a=h) && decide (e=s)),fun a e ha=>?_,fun a ha=>?_,fun e he d hd=>?_⟩
  · show (setS S h s true a e).isNone=true
    simp at ha
    simp only [setS]
    rw [if_neg (fun x=>ha.2.elim (fun y=>y x.1) (fun y=>y x.2))]
    exact h1 a e ha.1
  · rw [idF_put hh hs hn]
    have b:=h2 a ha
    by_cases hah:a=h
    · subst hah
      have:=ct_less (p:=P a) hs12 hP
      simp
      omega
    · simpa [hah] using b
  · have b:=h3 e he d hd
    simp only [ndX] at b ⊢
    split
    · rename_i x
      rw [if_pos x] at b
      by_cases hes:e=s
      · subst hes
        rw [stT_col hn]
        by_cases hd2:h<d
        · have:=ct_less (p:=fun a=>P a e) hd2 hP
          simp [hd2] at this ⊢
          omega
        · have:=ct_same (p:=fun a=>P a e) (n:=d) (s:=h) (by omega)
          simp [hd2] at this ⊢
          omega
      · rw [stT_else true hes]
        simpa [hes] using b
    · exact ct_nonneg _ _
theorem feas_idle (hh:h<c.hs.length) (hs:s<c.bs.length) (hn:∀ a,h≤a→S a s=none) (hm:∀ d,d<c.hs.length→ndR c s d≤ndR c s (c.hs.length-1)) (hl:ndR c s (c.hs.length-1)≤ct (fun a=>stT S a s) (c.hs.length-1)) (hf:feasR c S):feasR c (setS S h s false):=by
  obtain⟨P,h1,h2,h3⟩:=hf
  have hc:∀ d,h≤d→ct (fun a=>stT S a s) d=ct (fun a=>stT S a s) h:=fun d hd=>by
    rw [← ct_below (fun a=>stT S a s) hd]
    exact ct_congr fun i _=>by
      by_cases hi:i<h
      · simp [hi]
      · simp [hi,stT,hn i (by omega)]
  refine feas_off (P:=fun a e=>P a e && !(decide (a=h) && decide (e=s))) hh hs (hn h (Nat.le_refl _)) (fun a e ha=>h1 a e (by simp at ha;exact ha.1)) (fun a ha=>?_) (fun e he d hd=>?_) (by simp)
  · exact Int.le_trans (ct_le fun i _ hi=>by simp at hi;exact hi.1) (h2 a ha)
  · have b:=h3 e he d hd
    by_cases hes:e=s
    · subst hes
      by_cases hd2:h<d
      · simp only [ndX]
        split
        · rename_i x
          have a1:=hc d (by omega)
          have a2:=hc (c.hs.length-1) (by omega)
          have a3:=hm d x.2
          refine Int.le_trans (b:=0) ?_ (ct_nonneg _ _)
          omega
        · exact ct_nonneg _ _
      · have:=ct_same (p:=fun a=>P a e) (n:=d) (s:=h) (by omega)
        simp at this ⊢
        omega
    · simpa [hes] using b
theorem feas_settle (hh:h<c.hs.length) (hs:s<c.bs.length) (hb:c.bs.length≤12) (h8:c.hs.length≤8) (hn:∀ a,h≤a→S a s=none) (hm:∀ d,d<c.hs.length→ndR c s d≤ndR c s (c.hs.length-1)) (hf:feasR c S) {r:Bool}
    (hr:r=true↔0<idF c S h∧ct (fun a=>stT S a s) (c.hs.length-1)<ndR c s (c.hs.length-1)∧feasR c (setS S h s true)):feasR c (setS S h s r):=by
  cases r with
  | true=>exact (hr.1 rfl).2.2
  | false =>
    have hno:=fun x=>Bool.false_ne_true (hr.2 x)
    by_cases hl:ct (fun a=>stT S a s) (c.hs.length-1)<ndR c s (c.hs.length-1)
    · obtain⟨P,h1,h2,h3⟩:=hf
      have h0:=hn h (Nat.le_refl _)
      cases hP:P h s with
      | false=>exact feas_off hh hs h0 h1 h2 h3 hP
      | true =>
        have a:=ct_less (p:=P h) (n:=12) (by omega) hP
        have b:=ct_nonneg (fun i=>P h i && !decide (i=s)) 12
        have d:=h2 h (by omega)
        exact (hno ⟨by omega,hl,feas_on hh hs (by omega) h0 h1 h2 h3 hP⟩).elim
    · exact feas_idle hh hs hn hm (by omega) hf
theorem feas_first (hh:h<c.hs.length) (hs:s<c.bs.length) (hb:c.bs.length≤12) (h8:c.hs.length≤8) (h0:S h s=none) {r:Bool}
    (hr:r=true↔0<idF c S h∧ct (fun a=>stT S a s) (c.hs.length-1)<ndR c s (c.hs.length-1)∧feasR c (setS S h s true)) (hrf:r=false) (hl:ct (fun a=>stT S a s) (c.hs.length-1)<ndR c s (c.hs.length-1))
    (P:Nat→Nat→Bool) (h1:∀ a e,P a e=true→(S a e).isNone=true) (h2:∀ a,a<8→ct (P a) 12≤idF c S a) (h3:∀ e,e<12→∀ d,d<8→ndX c S e d≤ct (fun a=>P a e) d):P h s=false:=by
  cases hP:P h s with
  | false=>rfl
  | true =>
    have a:=ct_less (p:=P h) (n:=12) (by omega) hP
    have b:=ct_nonneg (fun i=>P h i && !decide (i=s)) 12
    have d:=h2 h (by omega)
    have:=hr.2 ⟨by omega,hl,feas_on hh hs (by omega) h0 h1 h2 h3 hP⟩
    rw [hrf] at this;cases this
end
theorem bit_has (set h:Nat) (hs:set<256) (hh:h<8):decide (IntKind.i64.wrap ((((set:Int).fdiv (2 ^ min h IntKind.i64.bits) % 2 ^ IntKind.i64.bits).toNat &&& 1 % 2 ^ IntKind.i64.bits:Nat):Int)=1)=set.testBit h:=by
  have e1:min h IntKind.i64.bits=h:=by simp [IntKind.bits];omega
  have e2:(set:Int).fdiv (2 ^ h)=((set / 2 ^ h:Nat):Int):=by
    rw [Int.fdiv_eq_ediv_of_nonneg _ (by exact_mod_cast Nat.zero_le (2 ^ h))];simp
  have e3:set / 2 ^ h<256:=Nat.lt_of_le_of_lt (Nat.div_le_self _ _) hs
  have e4:(((set / 2 ^ h:Nat):Int) % 2 ^ IntKind.i64.bits).toNat=set / 2 ^ h:=by
    generalize set / 2 ^ h=q at *
    simp only [IntKind.bits];omega
  have e5:1 % 2 ^ IntKind.i64.bits=1:=by simp [IntKind.bits]
  rw [e1,e2,e4,e5,Nat.and_one_is_mod,Nat.testBit_eq_decide_div_mod_eq]
  rcases Nat.mod_two_eq_zero_or_one (set / 2 ^ h) with h1|h1 <;> rw [h1] <;> decide
theorem c_has (H:Heap) (set h:Nat) (hs:set<256) (hh:h<8):ACalls Try.prog F.ice_has [.int .i64 set,.int .i64 h] H (fun v h'=>v=.bool (set.testBit h)∧h'=H):=by
  have hb:=bit_has set h hs hh
  refine acalls_of ok_ice_has rfl fun hcl=>?_
  unfold ac_ice_has zo
  simp only [argsT,Nat.zero_add,Nat.reduceAdd]
  repeat (first|(with_reducible first|apply X1|apply X2|apply X3|apply X8)|((with_reducible apply e_end);(simp;exact Rz))|((with_reducible apply O1);rfl;(simp (disch:=omega);exact Rz);exact Rz;(focus (first|(simp;done)|omega|(simp;omega)))))
  exact q_drop0 (.inr rfl) (by simp;exact Rz) (by simp) ⟨by rw [← hb],rfl⟩
end Go.Proofs
/- How often a stretch must be sprayed in hours of a set. -/
namespace Go.Proofs
open Go.Abs
attribute [local simp] AOp.den AOpd.ev lk cellsOf rd_new rd_new0 rd_zero rd_succ wr_new wr_new0 wr_zero wr_succ splice fillA binA scal sliceCells List.length_append argsT AV.sc scL AObj.sc resV getAll AR.get AOp.slots opdSlots opdsSlots partSlots eqAt at_new0 at_new set_new0 set_new wrap64
set_option linter.unusedSimpArgs false
set_option linter.unusedVariables false
set_option maxHeartbeats 1000000 in
theorem c_beyond (H:Heap) (c:Cv) (p:Plc) (hp:CvAt H c p) (id m:Nat) (ex:Bool) (hid:id<H.length) (hm:m≤c.hs.length) (h8:c.hs.length≤8) (need:Nat→Int) (hb:∀ i,i<m→-1000000000000≤need i∧need i≤1000000000000) (hs:∀ i,i<m→rd H id i 1=some [.int .i64 (need i)]) (set:Nat) (h256:set<256) :
    ACalls Try.prog F.ice_coat_beyond [.agg (c.av p),.slice id 0 m 1 ex,.int .i64 set] H (fun v h'=>v=.int .i64 (Go.Hall.lackT need (fun h=>(c.h h).cold && !set.testBit h) m)∧h'=H):=by
  have hp1:=hp.t
  have hp2:=rd_lt hp.b
  have hp3:=rd_lt hp.h
  have hx:=fun (k:Nat) (hk:k<c.hs.length)=>rd_sub' (hp.hour hk) 4 1 (by omega)
  simp only [Cv.av,Hr.av,List.drop_succ_cons,List.drop_zero,List.take_succ_cons,List.take_zero] at *
  refine acalls_of ok_ice_coat_beyond rfl fun hcl=>?_
  unfold ac_ice_coat_beyond zo
  simp only [argsT,Nat.zero_add,Nat.reduceAdd]
  repeat (first|(with_reducible first|apply X1|apply X2|apply X6|apply X8)|((with_reducible apply e_end);(simp;exact Rz))|((with_reducible apply O1);rfl;(simp (disch:=omega);exact Rz);exact Rz;(focus (first|(simp;done)|omega|(simp;omega)))))
  refine e_loop (ι:={ i:Nat // i≤m }) (fun i=>[(2,.int .i64 set),(3,.ptr H.length 0),(7,.int .i64 (Go.Hall.lackT need (fun h=>(c.h h).cold && !set.testBit h) i.1)),(8,.int .i64 (Go.Hall.ct (fun h=>(c.h h).cold && !set.testBit h) i.1)),(11,.slice id 0 m 1 ex),(12,.int .i64 m),(13,.int .i64 i.1)])
    (fun _=>H++[.cells [.slice p.tid p.toff p.tn 9 p.tex,.slice p.bid p.boff c.bs.length 3 p.bex,.slice p.hid p.hoff c.hs.length 5 p.hex,.int .i64 c.w1,.int .i64 c.w2,.int .i64 c.y1,.int .i64 c.y2,.int .i64 c.rate,.int .i64 c.lim,.int .i64 c.base] true]) (fun i=>m-i.1) ⟨0,by simp⟩ ?_ ?_
  · exact .inl (by simp [Go.Hall.lackT,Go.Hall.ct,Go.Hall.sm])
  · rintro⟨i,hi⟩
    dsimp only
    by_cases hlt:i<m
    · have hlt2:(i:Int)<m:=by omega
      have hih:i<c.hs.length:=by omega
      have r1:=hs i hlt
      have hxi:=hx i hih
      have hbi:=hb i hlt
      have hb1:=Go.Hall.ct_nonneg (fun h=>(c.h h).cold && !set.testBit h) i
      have hb2:=Go.Hall.ct_top (fun h=>(c.h h).cold && !set.testBit h) i
      have hl:Go.Hall.lackT need (fun h=>(c.h h).cold && !set.testBit h) (i+1)=max (Go.Hall.lackT need (fun h=>(c.h h).cold && !set.testBit h) i) (need i-Go.Hall.ct (fun h=>(c.h h).cold && !set.testBit h) i):=rfl
      have hc:Go.Hall.ct (fun h=>(c.h h).cold && !set.testBit h) (i+1)=Go.Hall.ct (fun h=>(c.h h).cold && !set.testBit h) i+if ((c.h i).cold && !set.testBit i)=true then 1 else 0:=rfl
      have kh:=fun G=>c_has (H++G) set i h256 (by omega)
      repeat (first|(with_reducible first|apply X1|apply X2|apply X5|apply X6|apply X8)|((with_reducible apply e_end);(simp;exact Rz))|((with_reducible apply O1);rfl;(simp (disch:=omega) [hlt,hlt2,rd_old _ hid,r1];exact Rz);exact Rz;(focus (first|(simp;done)|omega|(simp;omega))))|((with_reducible apply Z9);(simp (disch:=omega) [hlt,hlt2,rd_old _ hid,r1];exact Rz)))
      (with_reducible apply e_call);(simp;exact Rz);exact c_greatest1 _ _ _ _ _ _ (by simp;exact Rz)
      rintro _ _ ⟨rfl,rfl⟩
      rw [← hl]
      cases hcold:(c.h i).cold with
      | false =>
        rw [hcold] at hxi hc
        repeat (first|(with_reducible first|apply X1|apply X2|apply X5|apply X8|apply Y2)|((with_reducible apply e_end);(simp;exact Rz))|((with_reducible apply O1);rfl;(simp (disch:=omega) [rd_old _ hp3,hxi,hih];exact Rz);exact Rz;(focus (first|(simp;done)|omega|(simp;omega))))|((with_reducible apply Z1);(simp (disch:=omega) [rd_old _ hp3,hxi,hih];exact Rz))|((with_reducible apply W3);(simp (disch:=omega) [rd_old _ hp3,hxi,hih];exact Rz)))
        refine q_again ⟨i+1,by omega⟩ (by dsimp only;omega) (.inr ?_)
        simp at hc
        rw [hc]
        exact le_take (G:=[_]) (by simp;omega) (by simp [Red];omega)
      | true =>
        rw [hcold] at hxi hc
        repeat (first|(with_reducible first|apply X1|apply X2|apply X8)|((with_reducible apply e_end);(simp;exact Rz))|((with_reducible apply O1);rfl;(simp (disch:=omega) [rd_old _ hp3,hxi,hih];exact Rz);exact Rz;(focus (first|(simp;done)|omega|(simp;omega))))|((with_reducible apply Z7);(simp (disch:=omega) [rd_old _ hp3,hxi,hih];exact Rz)))
        (with_reducible apply e_call);(simp;exact Rz);exact kh _
        rintro _ _ ⟨rfl,rfl⟩
        cases hbit:set.testBit i with
        | true =>
          rw [hbit] at hc
          repeat (first|(with_reducible first|apply X2|apply X5|apply X8|apply Y2)|((with_reducible apply e_end);(simp;exact Rz))|((with_reducible apply O1);rfl;(simp (disch:=omega);exact Rz);exact Rz;(focus (first|(simp;done)|omega|(simp;omega))))|((with_reducible apply Z7);(simp (disch:=omega);exact Rz))|((with_reducible apply W3);(simp (disch:=omega);exact Rz)))
          refine q_again ⟨i+1,by omega⟩ (by dsimp only;omega) (.inr ?_)
          simp at hc
          rw [hc]
          exact le_take (G:=[_]) (by simp;omega) (by simp [Red];omega)
        | false =>
          rw [hbit] at hc
          repeat (first|(with_reducible first|apply X2|apply X8|apply Y2)|((with_reducible apply e_end);(simp;exact Rz))|((with_reducible apply O1);rfl;(simp (disch:=omega);exact Rz);exact Rz;(focus (first|(simp;done)|omega|(simp;omega))))|((with_reducible first|apply Z7|apply Z9);(simp (disch:=omega);exact Rz)))
          refine q_again ⟨i+1,by omega⟩ (by dsimp only;omega) (.inr ?_)
          simp at hc
          rw [hc]
          exact le_take (G:=[_]) (by simp;omega) (by simp [Red];omega)
    · have hlt2:¬ (i:Int)<m:=by omega
      obtain rfl:i=m:=by omega
      repeat (first|(with_reducible first|apply X1|apply X2|apply X3|apply X4|apply X8|apply Y1|apply Y4|apply Y6)|((with_reducible apply e_end);(simp;exact Rz))|((with_reducible apply O1);rfl;(simp (disch:=omega) [hlt2];exact Rz);exact Rz;(focus (first|(simp;done)|omega|(simp;omega))))|((with_reducible apply W3);(simp (disch:=omega) [hlt2];exact Rz)))
      refine q_drop (.inr rfl) (by simp;exact Rz) (by simp) ⟨rfl,rfl⟩
end Go.Proofs
/- The hours of a set. -/
namespace Go.Proofs
open Go.Abs
attribute [local simp] AOp.den AOpd.ev lk cellsOf rd_new rd_new0 rd_zero rd_succ wr_new wr_new0 wr_zero wr_succ splice fillA binA scal sliceCells List.length_append argsT AV.sc scL AObj.sc resV getAll AR.get AOp.slots opdSlots opdsSlots partSlots eqAt at_new0 at_new set_new0 set_new wrap64
set_option linter.unusedSimpArgs false
set_option linter.unusedVariables false
def memL (set:Nat):Nat→List Int
  | 0=>[]
  | k+1=>memL set k++if set.testBit k=true then [(k:Int)] else []
theorem memL_le (set:Nat):∀ k,(memL set k).length≤k
  | 0=>Nat.le_refl _
  | k+1=>by have:=memL_le set k;simp only [memL,List.length_append];split <;> simp <;> omega
set_option maxHeartbeats 1000000 in
theorem c_members (H:Heap) (set:Nat) (hs:set<256) :
    ACalls Try.prog F.ice_members [.int .i64 set] H (fun v h'=>v=lsV H 1 (memL set 8).length∧h'=H++lsO (memL set 8).length (iv (memL set 8))):=by
  refine acalls_of ok_ice_members rfl fun hcl=>?_
  unfold ac_ice_members zo
  simp only [argsT,Nat.zero_add,Nat.reduceAdd]
  repeat (first|(with_reducible first|apply X1|apply X2|apply X6|apply X8)|((with_reducible apply e_end);(simp;exact Rz))|((with_reducible apply O1);rfl;(simp (disch:=omega);exact Rz);exact Rz;(focus (first|(simp;done)|omega|(simp;omega)))))
  refine e_loop (ι:={ x:Nat × Heap × AV // x.1≤8∧AAt (H++x.2.1) 1 x.2.2 (iv (memL set x.1)) (memL set x.1).length∧∀ q,isId x.2.2 q→H.length≤q })
    (fun x=>[(0,.int .i64 set),(3,x.1.2.2),(5,.int .i64 x.1.1)])
    (fun x=>H++x.1.2.1) (fun x=>8-x.1.1) ⟨(0,[],.nilslice),by simp,AAt.nil _ _,fun q hq=>hq.elim⟩ ?_ ?_
  · exact .inl (by simp)
  · rintro⟨⟨i,G,lv⟩,hi,hl,hlq⟩
    dsimp only at hi hl hlq ⊢
    have hlv:=fun k=>hl.l.sc (m:=H.length+(G.length+k)) (by simp)
    obtain hlv0:lv.sc (H.length+G.length)=true:=hlv 0
    by_cases hlt:i<8
    · have hlt2:(i:Int)<8:=by omega
      have hle:=memL_le set i
      have kh:=fun G=>c_has (H++G) set i hs hlt
      have hm:memL set (i+1)=memL set i++if set.testBit i=true then [(i:Int)] else []:=rfl
      repeat (first|(with_reducible first|apply X1|apply X2|apply X5|apply X6|apply X8)|((with_reducible apply e_end);(simp;exact Rz))|((with_reducible apply O1);rfl;(simp (disch:=omega) [hlt,hlt2];exact Rz);exact Rz;(focus (first|(simp;done)|omega|(simp;omega))))|((with_reducible apply Z9);(simp (disch:=omega) [hlt,hlt2];exact Rz)))
      (with_reducible apply e_call);(simp;exact Rz);exact kh _
      rintro _ _ ⟨rfl,rfl⟩
      cases hbit:set.testBit i with
      | true =>
        rw [hbit,if_pos rfl] at hm
        repeat (first|(with_reducible first|apply X2|apply X8)|((with_reducible apply e_end);(simp;exact Rz))|((with_reducible apply O1);rfl;(simp (disch:=omega);exact Rz);exact Rz;(focus (first|(simp;done)|omega|(simp;omega))))|((with_reducible apply Z9);(simp (disch:=omega);exact Rz)))
        refine e_appA (A:=H) (G:=G++[.cells [.int .i64 i] true]) (cs:=iv (memL set i)) (n:=(memL set i).length) (m:=1) (new:=[.int .i64 i]) (by simp) (by simp;exact Rz) (by simp;exact Rz) (by have:=hl.app [.cells [.int .i64 i] true];simpa using this) (fun k hk=>hlq k hk) (by simp) (by simp) (by omega) (by omega) ?_
        intro G2 v2 f3 f4 f5 f6 f7
        have hv2:=fun k=>f3.l.sc (m:=H.length+(G2.length+k)) (by simp)
        obtain hv20:v2.sc (H.length+G2.length)=true:=hv2 0
        repeat (first|(with_reducible first|apply X2|apply X8|apply Y2)|((with_reducible apply e_end);(simp;exact Rz))|((with_reducible apply O1);rfl;(simp (disch:=omega);exact Rz);exact Rz;(focus (first|(simp;done)|omega|(simp;omega)))))
        refine q_again ⟨(i+1,G2,v2),by dsimp only;omega,?_,f4⟩ (by dsimp only;omega) (.inl (by simp))
        dsimp only
        rw [hm,iv_app,List.length_append];exact f3
      | false =>
        rw [hbit] at hm
        simp only [Bool.false_eq_true,if_false,List.append_nil] at hm
        repeat (first|(with_reducible first|apply X2|apply X5|apply X8|apply Y2)|((with_reducible apply e_end);(simp;exact Rz))|((with_reducible apply O1);rfl;(simp (disch:=omega);exact Rz);exact Rz;(focus (first|(simp;done)|omega|(simp;omega))))|((with_reducible apply W3);(simp (disch:=omega);exact Rz)))
        refine q_again ⟨(i+1,G,lv),by dsimp only;omega,?_,hlq⟩ (by dsimp only;omega) (.inl (by simp))
        dsimp only
        rw [hm];exact hl
    · have hlt2:¬ (i:Int)<8:=by omega
      obtain rfl:i=8:=by omega
      repeat (first|(with_reducible first|apply X1|apply X2|apply X3|apply X4|apply X8|apply Y1|apply Y4|apply Y6)|((with_reducible apply e_end);(simp;exact Rz))|((with_reducible apply O1);rfl;(simp (disch:=omega) [hlt2];exact Rz);exact Rz;(focus (first|(simp;done)|omega|(simp;omega))))|((with_reducible apply W3);(simp (disch:=omega) [hlt2];exact Rz)))
      exact q_post (v':=lsV H 1 (memL set 8).length) (.inr rfl) (by simp;exact Rz) (le_ls (fun x=>x) (fun _ _=>rfl) (fun _ _ h=>h) (iv_plain _) hl (fun q hq=>hlq q hq)) ⟨rfl,rfl⟩
theorem c_isNaN (H:Heap) (x:Int):ACalls Try.prog F.cmp_isNaN_int [.int .i64 x] H (fun v h'=>v=.bool false∧h'=H):=by
  refine acalls_of ok_cmp_isNaN_int rfl fun hcl=>?_
  unfold ac_cmp_isNaN_int zo
  simp only [argsT,Nat.zero_add,Nat.reduceAdd]
  repeat (first|(with_reducible first|apply X1|apply X2|apply X3|apply X8)|((with_reducible apply e_end);(simp;exact Rz))|((with_reducible apply O1);rfl;(simp (disch:=omega);exact Rz);exact Rz;(focus (first|(simp;done)|omega|(simp;omega)))))
  exact q_drop0 (.inr rfl) (by simp;exact Rz) (by simp) ⟨rfl,rfl⟩
theorem c_cmpI (H:Heap) (x y:Int):ACalls Try.prog F.cmp_Compare_int [.int .i64 x,.int .i64 y] H (fun v h'=>v=.int .i64 (if x<y then -1 else if y<x then 1 else 0)∧h'=H):=by
  refine acalls_of ok_cmp_Compare_int rfl fun hcl=>?_
  unfold ac_cmp_Compare_int zo
  simp only [argsT,Nat.zero_add,Nat.reduceAdd]
  repeat (first|(with_reducible first|apply X1|apply X2|apply X8)|((with_reducible apply e_end);(simp;exact Rz))|((with_reducible apply O1);rfl;(simp (disch:=omega);exact Rz);exact Rz;(focus (first|(simp;done)|omega|(simp;omega)))))
  (with_reducible apply e_call);(simp;exact Rz);exact c_isNaN _ _
  rintro _ _ ⟨rfl,rfl⟩
  repeat (first|(with_reducible first|apply X1|apply X2|apply X8)|((with_reducible apply e_end);(simp;exact Rz))|((with_reducible apply O1);rfl;(simp (disch:=omega);exact Rz);exact Rz;(focus (first|(simp;done)|omega|(simp;omega)))))
  (with_reducible apply e_call);(simp;exact Rz);exact c_isNaN _ _
  rintro _ _ ⟨rfl,rfl⟩
  by_cases h1:x<y
  · repeat (first|(with_reducible first|apply X1|apply X2|apply X3|apply X5|apply X8|apply X9)|((with_reducible apply e_end);(simp;exact Rz))|((with_reducible apply O1);rfl;(simp (disch:=omega) [h1];exact Rz);exact Rz;(focus (first|(simp;done)|omega|(simp;omega))))|((with_reducible apply Z9);(simp (disch:=omega) [h1];exact Rz))|((with_reducible apply W3);(simp (disch:=omega) [h1];exact Rz)))
    exact q_drop0 (.inr rfl) (by simp;exact Rz) (by simp) ⟨by rw [if_pos h1],rfl⟩
  · by_cases h2:y<x
    · repeat (first|(with_reducible first|apply X1|apply X2|apply X3|apply X5|apply X8|apply X9)|((with_reducible apply e_end);(simp;exact Rz))|((with_reducible apply O1);rfl;(simp (disch:=omega) [h1,h2];exact Rz);exact Rz;(focus (first|(simp;done)|omega|(simp;omega))))|((with_reducible apply Z9);(simp (disch:=omega) [h1,h2];exact Rz))|((with_reducible apply W3);(simp (disch:=omega) [h1,h2];exact Rz)))
      exact q_drop0 (.inr rfl) (by simp;exact Rz) (by simp) ⟨by rw [if_neg h1,if_pos h2],rfl⟩
    · repeat (first|(with_reducible first|apply X1|apply X2|apply X3|apply X5|apply X8)|((with_reducible apply e_end);(simp;exact Rz))|((with_reducible apply O1);rfl;(simp (disch:=omega) [h1,h2];exact Rz);exact Rz;(focus (first|(simp;done)|omega|(simp;omega))))|((with_reducible apply W3);(simp (disch:=omega) [h1,h2];exact Rz)))
      exact q_drop0 (.inr rfl) (by simp;exact Rz) (by simp) ⟨by rw [if_neg h1,if_neg h2],rfl⟩
def lexS:List Int→List Int→Bool
  | a :: xs,b :: ys=>decide (a<b) || (decide (a=b) && lexS xs ys)
  | _,_=>false
theorem lexS_at:∀ (i:Nat) (a b:List Int) (ha:i<a.length) (hb:i<b.length),(∀ j (h1:j<a.length) (h2:j<b.length),j<i→a[j]=b[j])→lexS a b=(decide (a[i]<b[i]) || (decide (a[i]=b[i]) && lexS (a.drop (i+1)) (b.drop (i+1))))
  | 0,a :: xs,b :: ys,_,_,_=>rfl
  | i+1,a :: xs,b :: ys,ha,hb,h=>by
    have h0:=h 0 (by simp) (by simp) (by omega)
    simp only [List.getElem_cons_zero] at h0
    have:=lexS_at i xs ys (by simpa using ha) (by simpa using hb) (fun j h1 h2 hj=>by have:=h (j+1) (by simpa using h1) (by simpa using h2) (by omega);simpa using this)
    simp only [lexS,h0,List.getElem_cons_succ,List.drop_succ_cons] at this ⊢
    simp [this]
theorem lexS_eq:∀ (a b:List Int),a.length=b.length→(∀ j (h1:j<a.length) (h2:j<b.length),a[j]=b[j])→lexS a b=false
  | [],_,_,_=>by cases ‹List Int› <;> rfl
  | a :: xs,[],_,_=>rfl
  | a :: xs,b :: ys,hl,h=>by
    have h0:=h 0 (by simp) (by simp)
    simp only [List.getElem_cons_zero] at h0
    have:=lexS_eq xs ys (by simpa using hl) (fun j h1 h2=>by have:=h (j+1) (by simpa using h1) (by simpa using h2);simpa using this)
    simp [lexS,h0,this]
set_option maxHeartbeats 1000000 in
theorem c_cmpL (H:Heap) (va vb:AV) (a b:List Int) (ha:IAt H va a) (hb:IAt H vb b) (hab:a.length=b.length) (hn:(a.length:Int)<1000000) :
    ACalls Try.prog F.slices_Compare_int_int [va,vb] H (fun v h'=>∃ r,v=.int .i64 r∧(r<0↔lexS a b=true)∧h'=H):=by
  have hsa:∀ k,va.sc (H.length+k)=true:=fun k=>RAt.sc ha (by omega)
  have hsb:∀ k,vb.sc (H.length+k)=true:=fun k=>RAt.sc hb (by omega)
  refine acalls_of ok_slices_Compare_int_int rfl fun hcl=>?_
  unfold ac_slices_Compare_int_int zo
  simp only [argsT,Nat.zero_add,Nat.reduceAdd]
  repeat (first|(with_reducible first|apply X1|apply X2|apply X8)|((with_reducible apply e_end);(simp;exact Rz))|((with_reducible apply O1);rfl;(simp (disch:=omega);exact Rz);exact Rz;(focus (first|(simp;done)|omega|(simp;omega)))))
  (with_reducible apply e_op);rfl;exact RAt.len ha _ (by simp);exact Rz;trivial
  repeat (first|(with_reducible first|apply X6|apply X8)|((with_reducible apply e_end);(simp;exact Rz))|((with_reducible apply O1);rfl;(simp (disch:=omega);exact Rz);exact Rz;(focus (first|(simp;done)|omega|(simp;omega)))))
  refine e_loop (ι:={ i:Nat // i≤a.length∧∀ j (h1:j<a.length) (h2:j<b.length),j<i→a[j]=b[j] })
    (fun i=>[(0,va),(1,vb),(9,va),(10,.int .i64 a.length),(11,.int .i64 i.1)]) (fun _=>H) (fun i=>a.length-i.1) ⟨0,by simp⟩ ?_ ?_
  · exact .inr <| le_id (by have h1:=hsa 0;have h2:=hsb 0;rw [Nat.add_zero] at h1 h2;simp [h1,h2])
  · rintro⟨i,hi1,hi2⟩
    dsimp only
    by_cases hlt:i<a.length
    · have hlt2:(i:Int)<a.length:=by omega
      have hlb:i<b.length:=by omega
      have hlb2:¬ (b.length:Int)≤i:=by omega
      obtain⟨id,off,ex,rfl,hx,hid⟩:=IAt.get ha hlt
      obtain⟨id2,off2,ex2,rfl,hy,hid2⟩:=IAt.get hb hlb
      have hla:=lexS_at i a b hlt hlb hi2
      repeat (first|(with_reducible first|apply X1|apply X2|apply X5|apply X6|apply X8)|((with_reducible apply e_end);(simp;exact Rz))|((with_reducible apply O1);rfl;(simp (disch:=omega) [hlt,hlt2,hx,hlb,hlb2,hy];exact Rz);exact Rz;(focus (first|(simp;done)|omega|(simp;omega))))|((with_reducible apply Z9);(simp (disch:=omega) [hlt,hlt2,hx,hlb,hlb2,hy];exact Rz))|((with_reducible apply W3);(simp (disch:=omega) [hlt,hlt2,hx,hlb,hlb2,hy];exact Rz)))
      (with_reducible apply e_call);(simp;exact Rz);exact c_cmpI _ _ _
      rintro _ _ ⟨rfl,rfl⟩
      by_cases h1:a[i]<b[i]
      · rw [if_pos h1]
        repeat (first|(with_reducible first|apply X1|apply X2|apply X3|apply X8|apply X9|apply Y3|apply Y5)|((with_reducible apply e_end);(simp;exact Rz))|((with_reducible apply O1);rfl;(simp (disch:=omega);exact Rz);exact Rz;(focus (first|(simp;done)|omega|(simp;omega))))|((with_reducible apply Z9);(simp (disch:=omega);exact Rz)))
        exact q_drop0 (.inr rfl) (by simp;exact Rz) (by simp) ⟨-1,rfl,by rw [hla];simp [h1],rfl⟩
      · rw [if_neg h1]
        by_cases h2:b[i]<a[i]
        · rw [if_pos h2]
          repeat (first|(with_reducible first|apply X1|apply X2|apply X3|apply X8|apply X9|apply Y3|apply Y5)|((with_reducible apply e_end);(simp;exact Rz))|((with_reducible apply O1);rfl;(simp (disch:=omega);exact Rz);exact Rz;(focus (first|(simp;done)|omega|(simp;omega))))|((with_reducible apply Z9);(simp (disch:=omega);exact Rz)))
          exact q_drop0 (.inr rfl) (by simp;exact Rz) (by simp) ⟨1,rfl,by rw [hla];simp;omega,rfl⟩
        · rw [if_neg h2]
          repeat (first|(with_reducible first|apply X1|apply X2|apply X5|apply X8|apply Y2)|((with_reducible apply e_end);(simp;exact Rz))|((with_reducible apply O1);rfl;(simp (disch:=omega);exact Rz);exact Rz;(focus (first|(simp;done)|omega|(simp;omega))))|((with_reducible apply W3);(simp (disch:=omega);exact Rz)))
          refine q_again ⟨i+1,hlt,fun j k1 k2 hj=>?_⟩ (by dsimp only;omega) (.inl (by simp))
          by_cases hji:j=i
          · subst hji;omega
          · exact hi2 j k1 k2 (by omega)
    · have hlt2:¬ (i:Int)<a.length:=by omega
      obtain rfl:i=a.length:=by omega
      have hlb3:¬ (a.length:Int)<b.length:=by omega
      have hle:=lexS_eq a b hab (fun j h1 h2=>hi2 j h1 h2 h1)
      repeat (first|(with_reducible first|apply X1|apply X2|apply X4|apply X8|apply Y1|apply Y4|apply Y6)|((with_reducible apply e_end);(simp;exact Rz))|((with_reducible apply O1);rfl;(simp (disch:=omega) [hlt2];exact Rz);exact Rz;(focus (first|(simp;done)|omega|(simp;omega))))|((with_reducible apply W3);(simp (disch:=omega) [hlt2];exact Rz)))
      (with_reducible apply e_op);rfl;exact RAt.len ha _ (by simp);exact Rz;trivial
      repeat ((with_reducible apply O1);rfl;(simp (disch:=omega);exact Rz);exact Rz;(focus (first|(simp;done)|omega|(simp;omega))))
      (with_reducible apply e_op);rfl;exact RAt.len hb _ (by simp);exact Rz;trivial
      repeat (first|(with_reducible first|apply X1|apply X2|apply X3|apply X5|apply X8)|((with_reducible apply e_end);(simp;exact Rz))|((with_reducible apply O1);rfl;(simp (disch:=omega) [hlb3];exact Rz);exact Rz;(focus (first|(simp;done)|omega|(simp;omega))))|((with_reducible apply W3);(simp (disch:=omega) [hlb3];exact Rz)))
      exact q_drop0 (.inr rfl) (by simp;exact Rz) (by simp) ⟨0,rfl,by rw [hle];simp,rfl⟩
def fewF (a b:List Int):Bool:=if a.length=b.length then lexS a b else decide (a.length<b.length)
theorem c_fewer (H:Heap) (va vb:AV) (a b:List Int) (ha:IAt H va a) (hb:IAt H vb b) (hn:(a.length:Int)<1000000) :
    ACalls Try.prog F.ice_fewer [va,vb] H (fun v h'=>v=.bool (fewF a b)∧h'=H):=by
  have hsa:∀ k,va.sc (H.length+k)=true:=fun k=>RAt.sc ha (by omega)
  have hsb:∀ k,vb.sc (H.length+k)=true:=fun k=>RAt.sc hb (by omega)
  have hsa0:=hsa 0
  have hsb0:=hsb 0
  rw [Nat.add_zero] at hsa0 hsb0
  refine acalls_of ok_ice_fewer rfl fun hcl=>?_
  unfold ac_ice_fewer zo
  simp only [argsT,Nat.zero_add,Nat.reduceAdd]
  repeat (first|(with_reducible first|apply X1|apply X2|apply X8)|((with_reducible apply e_end);(simp;exact Rz))|((with_reducible apply O1);rfl;(simp (disch:=omega);exact Rz);exact Rz;(focus (first|(simp;done)|omega|(simp;omega)))))
  (with_reducible apply e_op);rfl;exact RAt.len ha _ (by simp);exact Rz;trivial
  repeat ((with_reducible apply O1);rfl;(simp (disch:=omega);exact Rz);exact Rz;(focus (first|(simp;done)|omega|(simp;omega))))
  (with_reducible apply e_op);rfl;exact RAt.len hb _ (by simp);exact Rz;trivial
  by_cases hab:a.length=b.length
  · have hab2:(a.length:Int)=b.length:=by omega
    repeat (first|(with_reducible first|apply X1|apply X2|apply X5|apply X8)|((with_reducible apply e_end);(simp;exact Rz))|((with_reducible apply O1);rfl;(simp (disch:=omega) [hab,hab2];exact Rz);exact Rz;(focus (first|(simp;done)|omega|(simp;omega))))|((with_reducible apply W3);(simp (disch:=omega) [hab,hab2];exact Rz)))
    (with_reducible apply e_call);(simp;exact Rz);exact c_cmpL _ _ _ a b ha hb hab hn
    rintro _ _ ⟨r,rfl,hr,rfl⟩
    repeat (first|(with_reducible first|apply X3|apply X8)|((with_reducible apply e_end);(simp;exact Rz))|((with_reducible apply O1);rfl;(simp (disch:=omega);exact Rz);exact Rz;(focus (first|(simp;done)|omega|(simp;omega)))))
    exact q_drop0 (.inr rfl) (by simp;exact Rz) (by simp) ⟨by rw [fewF,if_pos hab,AV.bool.injEq,Bool.eq_iff_iff];simp [hr],rfl⟩
  · have hab2:¬ (a.length:Int)=b.length:=by omega
    repeat (first|(with_reducible first|apply X1|apply X2|apply X8)|((with_reducible apply e_end);(simp;exact Rz))|((with_reducible apply O1);rfl;(simp (disch:=omega) [hab,hab2];exact Rz);exact Rz;(focus (first|(simp;done)|omega|(simp;omega))))|((with_reducible apply Z9);(simp (disch:=omega) [hab,hab2];exact Rz)))
    (with_reducible apply e_op);rfl;exact RAt.len ha _ (by simp);exact Rz;trivial
    repeat ((with_reducible apply O1);rfl;(simp (disch:=omega);exact Rz);exact Rz;(focus (first|(simp;done)|omega|(simp;omega))))
    (with_reducible apply e_op);rfl;exact RAt.len hb _ (by simp);exact Rz;trivial
    repeat (first|(with_reducible first|apply X3|apply X8|apply X9)|((with_reducible apply e_end);(simp;exact Rz))|((with_reducible apply O1);rfl;(simp (disch:=omega);exact Rz);exact Rz;(focus (first|(simp;done)|omega|(simp;omega)))))
    exact q_drop0 (.inr rfl) (by simp;exact Rz) (by simp) ⟨by rw [fewF,if_neg hab],rfl⟩
def fstI (L:Nat→List Int):Nat→Nat
  | 0=>0
  | k+1=>if fewF (L (k+1)) (L (fstI L k))=true then k+1 else fstI L k
theorem fstI_le (L:Nat→List Int):∀ k,fstI L k≤k
  | 0=>Nat.le_refl _
  | k+1=>by have:=fstI_le L k;simp only [fstI];split <;> omega
set_option maxHeartbeats 1000000 in
theorem c_first (H:Heap) (id n:Nat) (ex:Bool) (hn:0<n) (hn2:(n:Int)<1000000) (hid:id<H.length) (w:Nat→AV) (L:Nat→List Int) (hw:∀ k,k<n→rd H id k 1=some [w k]∧IAt H (w k) (L k)∧((L k).length:Int)<1000000) :
    ACalls Try.prog F.ice_first_int [.slice id 0 n 1 ex,.fn (.func F.ice_fewer) [] []] H (fun v h'=>v=w (fstI L (n-1))∧h'=H):=by
  have hs:∀ k,k<n→(w k).sc H.length=true:=fun k hk=>RAt.sc (hw k hk).2.1 (Nat.le_refl _)
  have hr0:=(hw 0 hn).1
  have hs0:=hs 0 hn
  have hn0:(0:Int)<n:=by omega
  have hn1:(1:Int)≤n:=by omega
  have hn3:1≤n:=hn
  have hnc:((n-1:Nat):Int)=(n:Int)-1:=by omega
  refine acalls_of ok_ice_first_int rfl fun hcl=>?_
  unfold ac_ice_first_int zo
  simp only [argsT,Nat.zero_add,Nat.reduceAdd]
  repeat (first|(with_reducible first|apply X1|apply X2|apply X6|apply X8)|((with_reducible apply e_end);(simp;exact Rz))|((with_reducible apply O1);rfl;(simp (disch:=omega) [hn,hn0,hn1,hn3,hr0];exact Rz);exact Rz;(focus (first|(simp;done)|omega|(simp;omega)))))
  refine e_loop (ι:={ i:Nat // i≤n-1 })
    (fun i=>[(1,.fn (.func F.ice_fewer) [] []),(5,w (fstI L i.1)),(12,.slice id 1 (n-1) 1 ex),(13,.int .i64 ((n:Int)-1)),(14,.int .i64 i.1)]) (fun _=>H) (fun i=>n-1-i.1) ⟨0,by simp⟩ ?_ ?_
  · exact .inl (by simp [fstI,hnc])
  · rintro⟨i,hi⟩
    dsimp only
    have hfi:=fstI_le L i
    have hsi:=hs (fstI L i) (by omega)
    by_cases hlt:i<n-1
    · have hlt2:(i:Int)<(n:Int)-1:=by omega
      have hri:=(hw (i+1) (by omega)).1
      rw [Nat.add_comm] at hri
      have hsi1:=hs (i+1) (by omega)
      rw [Nat.add_comm] at hsi1
      have hf:fstI L (i+1)=if fewF (L (i+1)) (L (fstI L i))=true then i+1 else fstI L i:=rfl
      have kf:=c_fewer H (w (1+i)) (w (fstI L i)) (L (1+i)) (L (fstI L i)) (hw _ (by omega)).2.1 (hw _ (by omega)).2.1 (hw _ (by omega)).2.2
      repeat (first|(with_reducible first|apply X1|apply X2|apply X5|apply X6|apply X8)|((with_reducible apply e_end);(simp;exact Rz))|((with_reducible apply O1);rfl;(simp (disch:=omega) [hlt,hlt2,hri];exact Rz);exact Rz;(focus (first|(simp;done)|omega|(simp;omega))))|((with_reducible apply Z9);(simp (disch:=omega) [hlt,hlt2,hri];exact Rz)))
      (with_reducible apply e_callV);(simp;exact Rz);(simp;exact Rz);exact kf
      rintro _ _ ⟨rfl,rfl⟩
      cases hb:fewF (L (1+i)) (L (fstI L i)) with
      | true =>
        rw [Nat.add_comm 1 i] at hb
        rw [hb,if_pos rfl] at hf
        repeat (first|(with_reducible first|apply X2|apply X8|apply Y2)|((with_reducible apply e_end);(simp;exact Rz))|((with_reducible apply O1);rfl;(simp (disch:=omega);exact Rz);exact Rz;(focus (first|(simp;done)|omega|(simp;omega))))|((with_reducible apply Z9);(simp (disch:=omega);exact Rz)))
        refine q_again ⟨i+1,by omega⟩ (by dsimp only;omega) (.inl ?_)
        simp [hf,Nat.add_comm]
      | false =>
        rw [Nat.add_comm 1 i] at hb
        rw [hb,if_neg (by simp)] at hf
        repeat (first|(with_reducible first|apply X2|apply X5|apply X8|apply Y2)|((with_reducible apply e_end);(simp;exact Rz))|((with_reducible apply O1);rfl;(simp (disch:=omega);exact Rz);exact Rz;(focus (first|(simp;done)|omega|(simp;omega))))|((with_reducible apply W3);(simp (disch:=omega);exact Rz)))
        refine q_again ⟨i+1,by omega⟩ (by dsimp only;omega) (.inl ?_)
        simp [hf]
    · have hlt2:¬ (i:Int)<(n:Int)-1:=by omega
      obtain rfl:i=n-1:=by omega
      repeat (first|(with_reducible first|apply X1|apply X2|apply X3|apply X4|apply X8|apply Y1|apply Y4|apply Y6)|((with_reducible apply e_end);(simp;exact Rz))|((with_reducible apply O1);rfl;(simp (disch:=omega) [hlt2];exact Rz);exact Rz;(focus (first|(simp;done)|omega|(simp;omega))))|((with_reducible apply W3);(simp (disch:=omega) [hlt2];exact Rz)))
      exact q_drop0 (.inr rfl) (by simp;exact Rz) (by simpa using hsi) ⟨rfl,rfl⟩
open Go.Hall
structure LS (A:Heap) (n:Nat) (w:Nat→AV) (L:Nat→List Int) (lv:AV) (G:Heap):Prop where
  all:AAt (A++G) 1 lv (rwV w n) n
  rows:∀ k,k<n→AAt (A++G) 1 (w k) (iv (L k)) (L k).length
  ge:∀ i,isId lv i→A.length≤i
  rge:∀ k,k<n→∀ i,isId (w k) i→A.length≤i
  ne:∀ k,k<n→∀ i,isId (w k) i→¬ isId lv i
theorem LS.nil (A:Heap) (L:Nat→List Int) (w:Nat→AV) (G:Heap):LS A 0 w L .nilslice G:=⟨AAt.nil _ _,fun k hk=>by omega,fun i hi=>hi.elim,fun k hk=>by omega,fun k hk=>by omega⟩
theorem LS.app {A:Heap} {n:Nat} {w:Nat→AV} {L:Nat→List Int} {lv:AV} {G:Heap} (h:LS A n w L lv G) (X:Heap):LS A n w L lv (G++X) :=
  ⟨by rw [← List.append_assoc];exact h.all.app X,fun k hk=>by rw [← List.append_assoc];exact (h.rows k hk).app X,h.ge,h.rge,h.ne⟩
theorem LS.add {A:Heap} {n:Nat} {w:Nat→AV} {L:Nat→List Int} {lv:AV} {G G':Heap} {lv' v:AV} {l:List Int} (h:LS A n w L lv G) (hv:AAt (A++G) 1 v (iv l) l.length) (hvg:∀ i,isId v i→A.length≤i) (hvn:∀ i,isId v i→¬ isId lv i)
    (h1:AAt (A++G') 1 lv' (rwV w n++[v]) (n+1)) (h2:∀ i,isId lv' i→(A++G).length≤i) (h3:∀ i,i<(A++G).length→¬ isId lv i→(A++G')[i]?=(A++G)[i]?) :
    LS A (n+1) (fun k=>if k=n then v else w k) (fun k=>if k=n then l else L k) lv' G':=by
  have old:∀ u m,AAt (A++G) 1 u (iv m) m.length→(∀ i,isId u i→¬ isId lv i)→AAt (A++G') 1 u (iv m) m.length:=fun u m hu hn=>hu.keep fun i hi=>h3 i (hu.l.lt hi) (hn i hi)
  refine⟨?_,fun k hk=>?_,fun i hi=>?_,fun k hk i hi=>?_,fun k hk i hi=>?_⟩
  · have e:rwV (fun k=>if k=n then v else w k) (n+1)=rwV w n++[v]:=by
      simp only [rwV,List.range_succ,List.map_append,List.map_cons,List.map_nil,if_true]
      congr 1
      apply List.map_congr_left
      intro k hk
      have:=List.mem_range.1 hk
      rw [if_neg (by omega)]
    rw [e];exact h1
  · by_cases hkn:k=n
    · simp only [hkn,if_true];exact old v l hv hvn
    · simp only [hkn,if_false];exact old _ _ (h.rows k (by omega)) (h.ne k (by omega))
  · have:=h2 i hi;simp at this;omega
  · by_cases hkn:k=n
    · simp only [hkn,if_true] at hi;exact hvg i hi
    · simp only [hkn,if_false] at hi;exact h.rge k (by omega) i hi
  · intro hlv
    have a:=h2 i hlv
    by_cases hkn:k=n
    · simp only [hkn,if_true] at hi;have:=hv.l.lt hi;omega
    · simp only [hkn,if_false] at hi;have:=(h.rows k (by omega)).l.lt hi;omega
def askF (c:Cv) (last set:Nat) (n:Nat):Int:=sm (fun s=>lackT (ndR c s) (fun h=>(c.h h).cold && !set.testBit h) (last+1)) n
def hndF (c:Cv) (set:Nat) (n:Nat):Int:=sm (fun h=>if set.testBit h=true then handsF c h else 0) n
def shB (c:Cv) (last set:Nat):Bool:=decide (hndF c set 8<askF c last set c.bs.length)
def shL (c:Cv) (last:Nat):Nat→List Nat
  | 0=>[]
  | k+1=>shL c last k++if shB c last k=true then [k] else []
open Go.Hall
def hsum (c:Cv):List Int→Int
  | []=>0
  | x :: xs=>handsF c x.toNat+hsum c xs
theorem hsum_app (c:Cv):∀ l m:List Int,hsum c (l++m)=hsum c l+hsum c m
  | [],m=>by simp [hsum]
  | x :: l,m=>by simp [hsum,hsum_app c l m];omega
theorem hsum_mem (c:Cv) (set:Nat):∀ k,hsum c (memL set k)=hndF c set k
  | 0=>rfl
  | k+1=>by
    simp only [memL,hsum_app,hsum_mem c set k,hndF,sm]
    split <;> simp [hsum]
theorem mem_lt {set last:Nat} (hs:set<2 ^ last):∀ k,∀ x∈memL set k,0≤x∧x<last
  | 0,x,hx=>by cases hx
  | k+1,x,hx=>by
    simp only [memL,List.mem_append] at hx
    rcases hx with hx|hx
    · exact mem_lt hs k x hx
    · split at hx
      · rename_i hb
        have:=Nat.ge_two_pow_of_testBit hb
        have hk:k<last:=by
          rcases Nat.lt_or_ge k last with h|h
          · exact h
          · have:=Nat.pow_le_pow_right (n:=2) (by omega) h
            omega
        simp at hx;omega
      · cases hx
theorem hands_bd {c:Cv} {n:Nat} (hc:c.ok n) (h:Nat) (hh:h<c.hs.length):0≤handsF c h∧handsF c h≤12:=by
  have hcr:=(hc.hok h hh).2.2
  rw [← Cv.h_eq hh] at hcr
  simp only [handsF];split <;> omega
theorem hsum_bd {c:Cv} {n:Nat} (hc:c.ok n):∀ l:List Int,(∀ x∈l,0≤x∧x<c.hs.length)→0≤hsum c l∧hsum c l≤12 * l.length
  | [],_=>by simp [hsum]
  | x :: l,h=>by
    have h1:=h x (by simp)
    have h2:=hsum_bd hc l (fun y hy=>h y (by simp [hy]))
    have h3:=hands_bd hc x.toNat (by omega)
    simp only [hsum,List.length_cons];omega
theorem ask_bd {c:Cv} {n:Nat} (hc:c.ok n) {last set:Nat} (hl:last<c.hs.length):∀ k,k≤c.bs.length→0≤askF c last set k∧askF c last set k≤20200 * k
  | 0,_=>by simp [askF,sm]
  | k+1,hk=>by
    have h1:=ask_bd hc (set:=set) hl k (by omega)
    have h2:lackT (ndR c k) (fun h=>(c.h h).cold && !set.testBit h) (last+1)≤20200:=by
      suffices h:∀ m,m≤last+1→lackT (ndR c k) (fun h=>(c.h h).cold && !set.testBit h) m≤20200 from h _ (Nat.le_refl _)
      intro m
      induction m with
      | zero=>intro _;simp [lackT]
      | succ m ih =>
        intro hm
        have a:=ih (by omega)
        have b:=(ndF_bd hc (s:=k) (by omega) (h:=m+1) (by omega)).2
        have d:=ct_nonneg (fun h=>(c.h h).cold && !set.testBit h) m
        simp only [lackT,ndR];omega
    have h3:=lackT_nonneg (ndR c k) (fun h=>(c.h h).cold && !set.testBit h) (last+1)
    simp only [askF,sm] at h1 ⊢
    omega
theorem LS.eqL {A:Heap} {n:Nat} {w:Nat→AV} {L M:Nat→List Int} {lv:AV} {G:Heap} (h:LS A n w L lv G) (he:∀ k,k<n→L k=M k):LS A n w M lv G :=
  ⟨h.all,fun k hk=>by rw [← he k hk];exact h.rows k hk,h.ge,h.rge,h.ne⟩
theorem lsV_id {H:Heap} {sz n i:Nat} (h:isId (lsV H sz n) i):i=H.length:=by
  unfold lsV at h
  split at h
  · exact h.elim
  · have:H.length=i:=h
    exact this.symm
theorem lsV_scal (H:Heap) (sz n:Nat):scal (lsV H sz n)=true:=by unfold lsV;split <;> rfl
theorem hsum_take (c:Cv) (l:List Int) (j:Nat) (h:j<l.length):hsum c (l.take (j+1))=hsum c (l.take j)+handsF c (l[j]).toNat:=by
  rw [List.take_succ_eq_append_getElem h,hsum_app];simp [hsum]
theorem LS.low {H:Heap} {bx:AObj} {n:Nat} {w:Nat→AV} {L:Nat→List Int} {lv:AV} {G:Heap} (h:LS (H++[bx]) n w L lv G):LS H n w L lv (bx :: G):=by
  have e:H++[bx]++G=H++(bx :: G):=by simp
  have l:(H++[bx]).length=H.length+1:=by simp
  exact⟨e ▸ h.all,fun k hk=>e ▸ h.rows k hk,fun i hi=>by have:=h.ge i hi;omega,fun k hk i hi=>by have:=h.rge k hk i hi;omega,h.ne⟩
theorem shL_le (c:Cv) (last:Nat):∀ k,(shL c last k).length≤k
  | 0=>Nat.le_refl _
  | k+1=>by have:=shL_le c last k;simp only [shL,List.length_append];split <;> simp <;> omega
def shW (c:Cv) (last k:Nat) (i:Nat):List Int:=memL ((shL c last k).getD i 0) 8
set_option maxHeartbeats 4000000 in
theorem c_short (H:Heap) (c:Cv) (p:Plc) (hp:CvAt H c p) (n:Nat) (hc:c.ok n) (hn:n≤12) (nid:Nat) (hgo:GoAt H (.slice nid 0 c.bs.length 1 false) c.hs.length (ndR c) c.bs.length) (last:Nat) (hla:last<c.hs.length) :
    ACalls Try.prog F.ice_coat_short [.agg (c.av p),.slice nid 0 c.bs.length 1 false,.int .i64 last] H (fun v h'=>∃ (G:Heap) (w:Nat→AV),h'=H++G∧LS H (shL c last (2 ^ last)).length w (shW c last (2 ^ last)) v G):=by
  have hp1:=hp.t
  have hp2:=rd_lt hp.b
  have hp3:=rd_lt hp.h
  have h8:=hc.hours
  have hlen:=hc.len
  have hnid:nid<H.length:=by obtain⟨id,e,h1,_⟩:=hgo;injection e with e1;omega
  have h2p:2 ^ last≤2 ^ 7:=Nat.pow_le_pow_right (by omega) (by omega)
  have hml:∀ set,set<2 ^ last→∀ x∈memL set 8,0≤x∧x<last:=fun set h=>mem_lt h 8
  have hsh0:(2:Int) ^ last=((2 ^ last:Nat):Int):=by simp
  generalize 2 ^ last=pw at *
  have hsh:IntKind.i64.wrap (2 ^ min last IntKind.i64.bits)=(pw:Int):=by
    rw [show min last IntKind.i64.bits=last by simp [IntKind.bits];omega,hsh0]
    exact wrap64 (by omega) (by omega)
  obtain⟨nid',hne,hnl,hng⟩:=hgo
  obtain rfl:nid=nid':=by injection hne
  have kb:=fun G=>c_beyond (H++G) c p (hp.app G)
  have kh:=fun G h hh=>c_hands (H++G) c p (hp.app G) h hh (by omega)
  simp only [Cv.av] at kb kh ⊢
  refine acalls_of ok_ice_coat_short rfl fun hcl=>?_
  unfold ac_ice_coat_short zo
  simp only [argsT,Nat.zero_add,Nat.reduceAdd]
  repeat (first|(with_reducible first|apply X1|apply X2|apply X6|apply X8)|((with_reducible apply e_end);(simp;exact Rz))|((with_reducible apply O1);rfl;(simp (disch:=omega) [hsh];exact Rz);exact Rz;(focus (first|(simp;done)|omega|(simp;omega)))))
  obtain⟨bx,hbx⟩:∃ bx,bx=AObj.cells [.slice p.tid p.toff p.tn 9 p.tex,.slice p.bid p.boff c.bs.length 3 p.bex,.slice p.hid p.hoff c.hs.length 5 p.hex,.int .i64 c.w1,.int .i64 c.w2,.int .i64 c.y1,.int .i64 c.y2,.int .i64 c.rate,.int .i64 c.lim,.int .i64 c.base] true:=⟨_,rfl⟩
  refine e_loop (ι:={ x:Nat × Heap × AV × (Nat→AV) // x.1≤pw∧LS (H++[bx]) (shL c last x.1).length x.2.2.2 (shW c last x.1) x.2.2.1 x.2.1 })
    (fun x=>[(1,.slice nid 0 c.bs.length 1 false),(2,.int .i64 last),(3,.ptr H.length 0),(7,x.1.2.2.1),(17,.int .i64 pw),(18,.int .i64 x.1.1)])
    (fun x=>H++(AObj.cells [.slice p.tid p.toff p.tn 9 p.tex,.slice p.bid p.boff c.bs.length 3 p.bex,.slice p.hid p.hoff c.hs.length 5 p.hex,.int .i64 c.w1,.int .i64 c.w2,.int .i64 c.y1,.int .i64 c.y2,.int .i64 c.rate,.int .i64 c.lim,.int .i64 c.base] true :: x.1.2.1)) (fun x=>pw-x.1.1) ⟨(0,[],.nilslice,fun _=>.nilslice),by simp,LS.nil _ _ _ _⟩ ?_ ?_
  · exact .inl (by simp [hsh])
  · rintro⟨⟨set,G,lv,w⟩,hset,hl⟩
    dsimp only at hset hl ⊢
    have hlv:=fun k=>hl.all.l.sc (m:=H.length+(G.length+1+k)) (by simp [Nat.add_comm,Nat.add_left_comm])
    have hlv0:lv.sc (H.length+(G.length+1))=true:=hlv 0
    by_cases hlt:set<pw
    · have hlt2:(set:Int)<(pw:Int):=by omega
      have h256:set<256:=by omega
      repeat (first|(with_reducible first|apply X1|apply X2|apply X5|apply X6|apply X8)|((with_reducible apply e_end);(simp;exact Rz))|((with_reducible apply O1);rfl;(simp (disch:=omega) [hlt2];exact Rz);exact Rz;(focus (first|(simp;done)|omega|(simp;omega))))|((with_reducible apply Z9);(simp (disch:=omega) [hlt2];exact Rz)))
      refine e_loop (ι:={ i:Nat // i≤c.bs.length })
        (fun i=>[(1,.slice nid 0 c.bs.length 1 false),(2,.int .i64 last),(3,.ptr H.length 0),(7,lv),(8,.int .i64 set),(9,.int .i64 (askF c last set i.1)),(10,.int .i64 0),(17,.int .i64 pw),(18,.int .i64 set),(21,.slice nid 0 c.bs.length 1 false),(22,.int .i64 c.bs.length),(23,.int .i64 i.1)])
        (fun _=>H++(AObj.cells [.slice p.tid p.toff p.tn 9 p.tex,.slice p.bid p.boff c.bs.length 3 p.bex,.slice p.hid p.hoff c.hs.length 5 p.hex,.int .i64 c.w1,.int .i64 c.w2,.int .i64 c.y1,.int .i64 c.y2,.int .i64 c.rate,.int .i64 c.lim,.int .i64 c.base] true :: G)) (fun i=>c.bs.length-i.1) ⟨0,by simp⟩ ?_ ?_
      · exact .inl (by simp [askF,sm])
      · rintro⟨i,hi⟩
        dsimp only
        by_cases hil:i<c.bs.length
        · have hil2:(i:Int)<c.bs.length:=by omega
          have ab:=ask_bd hc (set:=set) hla i hi
          have ab2:=ask_bd hc (set:=set) hla (i+1) hil
          obtain⟨rid,r1,r2,r3⟩:=hng i hil
          have he:askF c last set (i+1)=askF c last set i+lackT (ndR c i) (fun h=>(c.h h).cold && !set.testBit h) (last+1):=rfl
          have kb1:=fun G=>kb G rid (last+1) false (by simp;omega) (by omega) h8.2 (ndR c i) (fun j hj=>by have:=ndF_bd hc hil (h:=j+1) (by omega);simp only [ndR];omega) (fun j hj=>by rw [rd_old _ r2];exact r3 j (by omega)) set h256
          have hl1:last+1≤c.hs.length:=hla
          have hl2:(last:Int)+1≤c.hs.length:=by omega
          have htn:((last:Int)+1).toNat=last+1:=by omega
          repeat (first|(with_reducible first|apply X1|apply X2|apply X5|apply X6|apply X8|apply Y9)|((with_reducible apply e_end);(simp;exact Rz))|((first|((with_reducible apply O1);rfl)|((with_reducible apply P1);rfl)|((with_reducible apply P2);rfl));(simp (disch:=omega) [hil,hil2,rd_old _ hnl,r1,hl1,hl2,htn];exact Rz);exact Rz;(focus (first|(simp;done)|omega|(simp;omega))))|((with_reducible apply Z9);(simp (disch:=omega) [hil,hil2,rd_old _ hnl,r1,hl1,hl2,htn];exact Rz)))
          (with_reducible apply d_call);(simp;exact Rz);exact kb1 _;(focus (first|(simp;done)|(simp;omega)))
          repeat (first|(with_reducible first|apply X2|apply X8|apply Y2)|((with_reducible first|apply e_end|apply d_end);(simp;exact Rz))|((first|((with_reducible apply O1);rfl)|((with_reducible apply P1);rfl));(simp (disch:=omega);exact Rz);exact Rz;(focus (first|(simp;done)|omega|(simp;omega)))))
          exact q_again ⟨i+1,hil⟩ (by dsimp only;omega) (.inl (by simp [he]))
        · have hil2:¬ (i:Int)<c.bs.length:=by omega
          obtain rfl:i=c.bs.length:=by omega
          repeat (first|(with_reducible first|apply X1|apply X2|apply X4|apply X8|apply Y1|apply Y4|apply Y6)|((with_reducible apply e_end);(simp;exact Rz))|((with_reducible apply O1);rfl;(simp (disch:=omega) [hil2];exact Rz);exact Rz;(focus (first|(simp;done)|omega|(simp;omega))))|((with_reducible apply W3);(simp (disch:=omega) [hil2];exact Rz)))
          have hA:=ls_at (H++(AObj.cells [.slice p.tid p.toff p.tn 9 p.tex,.slice p.bid p.boff c.bs.length 3 p.bex,.slice p.hid p.hoff c.hs.length 5 p.hex,.int .i64 c.w1,.int .i64 c.w2,.int .i64 c.y1,.int .i64 c.y2,.int .i64 c.rate,.int .i64 c.lim,.int .i64 c.base] true :: G)) (sz:=1) (n:=(memL set 8).length) (cs:=iv (memL set 8)) (by rw [iv_length,Nat.mul_one])
          have hAi:=fun i (h:isId (lsV (H++(AObj.cells [.slice p.tid p.toff p.tn 9 p.tex,.slice p.bid p.boff c.bs.length 3 p.bex,.slice p.hid p.hoff c.hs.length 5 p.hex,.int .i64 c.w1,.int .i64 c.w2,.int .i64 c.y1,.int .i64 c.y2,.int .i64 c.rate,.int .i64 c.lim,.int .i64 c.base] true :: G)) 1 (memL set 8).length) i)=>lsV_id h
          have hAs:=lsV_scal (H++(AObj.cells [.slice p.tid p.toff p.tn 9 p.tex,.slice p.bid p.boff c.bs.length 3 p.bex,.slice p.hid p.hoff c.hs.length 5 p.hex,.int .i64 c.w1,.int .i64 c.w2,.int .i64 c.y1,.int .i64 c.y2,.int .i64 c.rate,.int .i64 c.lim,.int .i64 c.base] true :: G)) 1 (memL set 8).length
          have hAf:lsV (H++(AObj.cells [.slice p.tid p.toff p.tn 9 p.tex,.slice p.bid p.boff c.bs.length 3 p.bex,.slice p.hid p.hoff c.hs.length 5 p.hex,.int .i64 c.w1,.int .i64 c.w2,.int .i64 c.y1,.int .i64 c.y2,.int .i64 c.rate,.int .i64 c.lim,.int .i64 c.base] true :: G)) 1 (memL set 8).length=.nilslice∨∃ id m,lsV (H++(AObj.cells [.slice p.tid p.toff p.tn 9 p.tex,.slice p.bid p.boff c.bs.length 3 p.bex,.slice p.hid p.hoff c.hs.length 5 p.hex,.int .i64 c.w1,.int .i64 c.w2,.int .i64 c.y1,.int .i64 c.y2,.int .i64 c.rate,.int .i64 c.lim,.int .i64 c.base] true :: G)) 1 (memL set 8).length=.slice id 0 m 1 false:=by unfold lsV;split;exact .inl rfl;exact .inr ⟨_,_,rfl⟩
          have hmb:=hml set hlt
          (with_reducible apply e_call);(simp;exact Rz);exact c_members _ set h256
          rintro _ _ ⟨rfl,rfl⟩
          generalize lsV (H++(AObj.cells [.slice p.tid p.toff p.tn 9 p.tex,.slice p.bid p.boff c.bs.length 3 p.bex,.slice p.hid p.hoff c.hs.length 5 p.hex,.int .i64 c.w1,.int .i64 c.w2,.int .i64 c.y1,.int .i64 c.y2,.int .i64 c.rate,.int .i64 c.lim,.int .i64 c.base] true :: G)) 1 (memL set 8).length=hv at *
          generalize lsO (memL set 8).length (iv (memL set 8))=X at *
          have hI:IAt (H++(AObj.cells [.slice p.tid p.toff p.tn 9 p.tex,.slice p.bid p.boff c.bs.length 3 p.bex,.slice p.hid p.hoff c.hs.length 5 p.hex,.int .i64 c.w1,.int .i64 c.w2,.int .i64 c.y1,.int .i64 c.y2,.int .i64 c.rate,.int .i64 c.lim,.int .i64 c.base] true :: G)++X) hv (memL set 8):=hA.l.r
          have hAsc:hv.sc (H++(AObj.cells [.slice p.tid p.toff p.tn 9 p.tex,.slice p.bid p.boff c.bs.length 3 p.bex,.slice p.hid p.hoff c.hs.length 5 p.hex,.int .i64 c.w1,.int .i64 c.w2,.int .i64 c.y1,.int .i64 c.y2,.int .i64 c.rate,.int .i64 c.lim,.int .i64 c.base] true :: G)++X).length=true:=hA.l.sc (Nat.le_refl _)
          have hm8:=memL_le set 8
          have hasc2:hv.sc (H.length+(G.length+X.length+1))=true:=by simpa using hAsc
          have hasc:hv.sc (H.length+(G.length+1)+X.length)=true:=by rw [← hasc2];congr 1;omega
          have hlvx:lv.sc (H.length+(G.length+1)+X.length)=true:=sc_mono (by omega) _ hlv0
          have hlvx2:lv.sc (H.length+(G.length+X.length+1))=true:=sc_mono (by omega) _ hlv0
          repeat (first|(with_reducible first|apply X1|apply X2|apply X8)|((with_reducible apply e_end);(simp;exact Rz))|((with_reducible apply O1);rfl;(simp (disch:=omega);exact Rz);exact Rz;(focus (first|(simp;done)|omega|(simp;omega)))))
          (with_reducible apply e_op);rfl;exact RAt.len hI _ (by simp);exact Rz;trivial
          repeat (first|(with_reducible first|apply X6|apply X8)|((with_reducible apply e_end);(simp;exact Rz))|((with_reducible apply O1);rfl;(simp (disch:=omega);exact Rz);exact Rz;(focus (first|(simp;done)|omega|(simp;omega)))))
          refine e_loop (ι:={ j:Nat // j≤(memL set 8).length })
            (fun j=>[(1,.slice nid 0 c.bs.length 1 false),(2,.int .i64 last),(3,.ptr H.length 0),(7,lv),(9,.int .i64 (askF c last set c.bs.length)),(10,.int .i64 (hsum c ((memL set 8).take j.1))),(13,hv),(17,.int .i64 pw),(18,.int .i64 set),(39,hv),(40,.int .i64 (memL set 8).length),(41,.int .i64 j.1)])
            (fun _=>H++(AObj.cells [.slice p.tid p.toff p.tn 9 p.tex,.slice p.bid p.boff c.bs.length 3 p.bex,.slice p.hid p.hoff c.hs.length 5 p.hex,.int .i64 c.w1,.int .i64 c.w2,.int .i64 c.y1,.int .i64 c.y2,.int .i64 c.rate,.int .i64 c.lim,.int .i64 c.base] true :: (G++X))) (fun j=>(memL set 8).length-j.1) ⟨0,by simp⟩ ?_ ?_
          · exact .inl (by simp [hsum])
          · rintro⟨j,hj⟩
            dsimp only
            by_cases hjl:j<(memL set 8).length
            · have hjl2:(j:Int)<(memL set 8).length:=by omega
              obtain⟨id,off,ex,rfl,hx,hid⟩:=IAt.get hI hjl
              have hb0:=hmb _ (List.getElem_mem hjl)
              have hh1:=hands_bd hc ((memL set 8)[j]).toNat (by omega)
              have hh2:=hsum_bd hc ((memL set 8).take j) (fun x hx=>by have:=hmb x (List.mem_of_mem_take hx);omega)
              have hh3:((memL set 8).take j).length≤8:=by simp;omega
              have hh4:=hsum_take c (memL set 8) j hjl
              have hx2:rd (H++(AObj.cells [.slice p.tid p.toff p.tn 9 p.tex,.slice p.bid p.boff c.bs.length 3 p.bex,.slice p.hid p.hoff c.hs.length 5 p.hex,.int .i64 c.w1,.int .i64 c.w2,.int .i64 c.y1,.int .i64 c.y2,.int .i64 c.rate,.int .i64 c.lim,.int .i64 c.base] true :: (G++X))) id (off+j) 1=some [.int .i64 (memL set 8)[j]]:=by simpa using hx
              obtain⟨m,hm⟩:=Int.eq_ofNat_of_zero_le hb0.1
              rw [hm] at hx2
              have hmn:((memL set 8)[j]).toNat=m:=by omega
              rw [hmn] at hh1 hh4
              have kh1:=fun G=>kh G m (by omega)
              repeat (first|(with_reducible first|apply X1|apply X2|apply X5|apply X6|apply X8)|((with_reducible apply e_end);(simp;exact Rz))|((with_reducible apply O1);rfl;(simp (disch:=omega) [hjl,hjl2,hx2];exact Rz);exact Rz;(focus (first|(simp;done)|omega|(simp;omega))))|((with_reducible apply Z9);(simp (disch:=omega) [hjl,hjl2,hx2];exact Rz)))
              (with_reducible apply e_call);(simp;exact Rz);exact kh1 _
              rintro _ _ ⟨rfl,rfl⟩
              repeat (first|(with_reducible first|apply X2|apply X8|apply Y2)|((with_reducible apply e_end);(simp;exact Rz))|((with_reducible apply O1);rfl;(simp (disch:=omega);exact Rz);exact Rz;(focus (first|(simp;done)|omega|(simp;omega)))))
              exact q_again ⟨j+1,hjl⟩ (by dsimp only;omega) (.inl (by simp [hh4]))
            · have hjl2:¬ (j:Int)<(memL set 8).length:=by omega
              obtain rfl:j=(memL set 8).length:=by omega
              rw [List.take_length,hsum_mem]
              have hn1:=shL_le c last set
              have hsn:shL c last (set+1)=shL c last set++if shB c last set=true then [set] else []:=rfl
              by_cases hsb:hndF c set 8<askF c last set c.bs.length
              · rw [if_pos (by simp [shB,hsb])] at hsn
                rcases hAf with rfl|⟨id,m,rfl⟩
                · repeat (first|(with_reducible first|apply X1|apply X2|apply X4|apply X8|apply Y1|apply Y4|apply Y6)|((with_reducible apply e_end);(simp;exact Rz))|((with_reducible apply O1);rfl;(simp (disch:=omega) [hjl2,hsb];exact Rz);exact Rz;(focus (first|(simp;done)|omega|(simp;omega))))|((with_reducible apply Z9);(simp (disch:=omega) [hjl2,hsb];exact Rz))|((with_reducible apply W3);(simp (disch:=omega) [hjl2,hsb];exact Rz)))
                  have hl2:=(hl.app X).app [.cells [.nilslice] true]
                  refine e_appA (A:=H++[bx]) (G:=G++X++[.cells [.nilslice] true]) (cs:=rwV w (shL c last set).length) (n:=(shL c last set).length) (m:=1) (new:=[.nilslice]) (by simp [hbx]) (by simp;exact Rz) (by simp;exact Rz) (by have:=hl2.all;simpa [hbx] using this) (fun k hk=>hl.ge k hk) (by simp) (by simp) (by omega) (by omega) ?_
                  intro G2 v2 f3 f4 f5 f6 f7
                  have hv2:=fun k=>f3.l.sc (m:=H.length+(G2.length+1+k)) (by simp [Nat.add_comm,Nat.add_left_comm])
                  have hv20:v2.sc (H.length+(G2.length+1))=true:=hv2 0
                  have hn2:(shL c last (set+1)).length=(shL c last set).length+1:=by rw [hsn];simp
                  have eh:H++[bx]++(G++X++[.cells [.nilslice] true])=H++(AObj.cells [.slice p.tid p.toff p.tn 9 p.tex,.slice p.bid p.boff c.bs.length 3 p.bex,.slice p.hid p.hoff c.hs.length 5 p.hex,.int .i64 c.w1,.int .i64 c.w2,.int .i64 c.y1,.int .i64 c.y2,.int .i64 c.rate,.int .i64 c.lim,.int .i64 c.base] true :: (G++(X++[.cells [.nilslice] true]))):=by simp [hbx]
                  have hadd:=hl2.add (v:=.nilslice) (l:=memL set 8) (by have:=hA.app [.cells [.nilslice] true];rw [eh];simpa using this) (fun i hi=>by have:=hAi i hi;simp at this ⊢;omega)
                    (fun i hi hi2=>by have h1:=hAi i hi;have h2:=hl.all.l.lt hi2;simp at h1 h2;omega) f3 (fun i hi=>by rw [eh];exact f6 i hi) (fun i hi hni=>by rw [eh] at hi ⊢;exact f5 i hi hni)
                  repeat (first|(with_reducible first|apply X2|apply X8|apply Y2)|((with_reducible apply e_end);(simp;exact Rz))|((with_reducible apply O1);rfl;(simp (disch:=omega);exact Rz);exact Rz;(focus (first|(simp;done)|omega|(simp;omega)))))
                  refine q_again ⟨(set+1,G2,v2,fun k=>if k=(shL c last set).length then .nilslice else w k),hlt,?_⟩ (by dsimp only;omega) (.inl (by simp [hbx]))
                  dsimp only
                  rw [hn2]
                  refine hadd.eqL fun k hk=>?_
                  simp only [shW,hsn,List.getD_eq_getElem?_getD]
                  by_cases hkn:k=(shL c last set).length
                  · rw [if_pos hkn,hkn,List.getElem?_append_right (Nat.le_refl _)];simp
                  · rw [if_neg hkn,List.getElem?_append_left (by omega)]
                · simp only [AV.sc,decide_eq_true_eq] at hasc2
                  repeat (first|(with_reducible first|apply X1|apply X2|apply X4|apply X8|apply Y1|apply Y4|apply Y6)|((with_reducible apply e_end);(simp;exact Rz))|((with_reducible apply O1);rfl;(simp (disch:=omega) [hjl2,hsb,hasc2];exact Rz);exact Rz;(focus (first|(simp;done)|omega|(simp;omega))))|((with_reducible apply Z9);(simp (disch:=omega) [hjl2,hsb,hasc2];exact Rz))|((with_reducible apply W3);(simp (disch:=omega) [hjl2,hsb,hasc2];exact Rz)))
                  have hl2:=(hl.app X).app [.cells [.slice id 0 m 1 false] true]
                  refine e_appA (A:=H++[bx]) (G:=G++X++[.cells [.slice id 0 m 1 false] true]) (cs:=rwV w (shL c last set).length) (n:=(shL c last set).length) (m:=1) (new:=[.slice id 0 m 1 false]) (by simp [hbx]) (by simp;exact Rz) (by simp;exact Rz) (by have:=hl2.all;simpa [hbx] using this) (fun k hk=>hl.ge k hk) (by simp) (by simp) (by omega) (by omega) ?_
                  intro G2 v2 f3 f4 f5 f6 f7
                  have hv2:=fun k=>f3.l.sc (m:=H.length+(G2.length+1+k)) (by simp [Nat.add_comm,Nat.add_left_comm])
                  have hv20:v2.sc (H.length+(G2.length+1))=true:=hv2 0
                  have hn2:(shL c last (set+1)).length=(shL c last set).length+1:=by rw [hsn];simp
                  have eh:H++[bx]++(G++X++[.cells [.slice id 0 m 1 false] true])=H++(AObj.cells [.slice p.tid p.toff p.tn 9 p.tex,.slice p.bid p.boff c.bs.length 3 p.bex,.slice p.hid p.hoff c.hs.length 5 p.hex,.int .i64 c.w1,.int .i64 c.w2,.int .i64 c.y1,.int .i64 c.y2,.int .i64 c.rate,.int .i64 c.lim,.int .i64 c.base] true :: (G++(X++[.cells [.slice id 0 m 1 false] true]))):=by simp [hbx]
                  have hadd:=hl2.add (v:=.slice id 0 m 1 false) (l:=memL set 8) (by have:=hA.app [.cells [.slice id 0 m 1 false] true];rw [eh];simpa using this) (fun i hi=>by have:=hAi i hi;simp at this ⊢;omega)
                    (fun i hi hi2=>by have h1:=hAi i hi;have h2:=hl.all.l.lt hi2;simp at h1 h2;omega) f3 (fun i hi=>by rw [eh];exact f6 i hi) (fun i hi hni=>by rw [eh] at hi ⊢;exact f5 i hi hni)
                  repeat (first|(with_reducible first|apply X2|apply X8|apply Y2)|((with_reducible apply e_end);(simp;exact Rz))|((with_reducible apply O1);rfl;(simp (disch:=omega);exact Rz);exact Rz;(focus (first|(simp;done)|omega|(simp;omega)))))
                  refine q_again ⟨(set+1,G2,v2,fun k=>if k=(shL c last set).length then .slice id 0 m 1 false else w k),hlt,?_⟩ (by dsimp only;omega) (.inl (by simp [hbx]))
                  dsimp only
                  rw [hn2]
                  refine hadd.eqL fun k hk=>?_
                  simp only [shW,hsn,List.getD_eq_getElem?_getD]
                  by_cases hkn:k=(shL c last set).length
                  · rw [if_pos hkn,hkn,List.getElem?_append_right (Nat.le_refl _)];simp
                  · rw [if_neg hkn,List.getElem?_append_left (by omega)]
              · rw [if_neg (by simp [shB];omega),List.append_nil] at hsn
                repeat (first|(with_reducible first|apply X1|apply X2|apply X4|apply X5|apply X8|apply Y1|apply Y2|apply Y4|apply Y6)|((with_reducible apply e_end);(simp;exact Rz))|((with_reducible apply O1);rfl;(simp (disch:=omega) [hjl2,hsb];exact Rz);exact Rz;(focus (first|(simp;done)|omega|(simp;omega))))|((with_reducible apply W3);(simp (disch:=omega) [hjl2,hsb];exact Rz)))
                refine q_again ⟨(set+1,G++X,lv,w),hlt,?_⟩ (by dsimp only;omega) (.inl (by simp))
                dsimp only
                have e:shW c last (set+1)=shW c last set:=by funext i;simp only [shW,hsn]
                rw [hsn,e]
                exact hl.app X
    · have hlt2:¬ (set:Int)<(pw:Int):=by omega
      obtain rfl:set=pw:=by omega
      repeat (first|(with_reducible first|apply X1|apply X2|apply X3|apply X4|apply X8|apply Y1|apply Y4|apply Y6)|((with_reducible apply e_end);(simp;exact Rz))|((with_reducible apply O1);rfl;(simp (disch:=omega) [hlt2];exact Rz);exact Rz;(focus (first|(simp;done)|omega|(simp;omega))))|((with_reducible apply W3);(simp (disch:=omega) [hlt2];exact Rz)))
      refine q_stay (.inr rfl) (by simp;exact Rz) ⟨bx :: G,w,by simp [hbx],?_⟩
      exact hl.low
open Go.Hall
def shN (c:Cv) (last:Nat):Nat:=(shL c last (2 ^ last)).length
def shOf (c:Cv) (last:Nat):List Int:=shW c last (2 ^ last) (fstI (shW c last (2 ^ last)) (shN c last-1))
theorem AAt.at1 {h:Heap} {id n:Nat} {w:Nat→AV} (hl:AAt h 1 (.slice id 0 n 1 false) (rwV w n) n) {k:Nat} (hk:k<n):rd h id k 1=some [w k]:=by
  obtain⟨hc,⟨h1,_⟩|⟨i,h0,h1,hh⟩⟩:=hl
  · cases h1
  · cases h1
    unfold rd
    simp only [hh,rwV_length]
    rw [if_pos (by omega),rwV_at _ hk]
set_option maxHeartbeats 4000000 in
theorem c_ShortV (H:Heap) (l:List Str) (c:Cv) (p:Plc) (hp:CvAt H c p) (ht:TrAt H l p) (hc:c.ok l.length) (hv:validL l) :
    ACalls Try.prog F.ice_Short [.agg (c.av p)] H (fun v h'=>(∃ last,last<c.hs.length∧(∀ k,k<last→shN c k=0)∧0<shN c last∧v=.tuple [.int .i64 last,lsV H 1 (shOf c last).length,.int .i64 0]∧h'=H++lsO (shOf c last).length (iv (shOf c last)))∨((∀ k,k<c.hs.length→shN c k=0)∧v=.tuple [.int .i64 0,.nilslice,.int .i64 6]∧h'=H)):=by
  have hp1:=hp.t
  have hp2:=rd_lt hp.b
  have hp3:=rd_lt hp.h
  have h12:=hv.1
  have hlen:=hc.len
  have h8:=hc.hours
  have k0:=fun G=>c_iCheck (H++G) l c p (hp.app G) (ht.app G) (by omega) (by omega) (by omega)
  have kn:=fun G=>c_needs (H++G) l c p (hp.app G) hc hv
  have hgo:=fun G=>goAt_of (H++G) c.hs.length (ndR c) c.bs.length []
  simp only [Cv.av] at k0 kn ⊢
  refine acalls_of ok_ice_Short rfl fun hcl=>?_
  unfold ac_ice_Short zo
  simp only [argsT,Nat.zero_add,Nat.reduceAdd]
  repeat (first|(with_reducible first|apply X1|apply X2|apply X8)|((with_reducible apply e_end);(simp;exact Rz))|((with_reducible apply O1);rfl;(simp (disch:=omega);exact Rz);exact Rz;(focus (first|(simp;done)|omega|(simp;omega)))))
  (with_reducible apply e_call);(simp;exact Rz);exact k0 _
  rintro _ _ ⟨rfl,e,rfl,he⟩
  obtain rfl:e=0:=by
    rcases he with h|h|h
    · exact h.2.2
    · exact absurd hv h.1
    · exact absurd hc h.2.1
  repeat (first|(with_reducible first|apply X1|apply X2|apply X5|apply X8)|((with_reducible apply e_end);(simp;exact Rz))|((first|((with_reducible apply O1);rfl)|((with_reducible apply O2);rfl));(simp (disch:=omega);exact Rz);exact Rz;(focus (first|(simp;done)|omega|(simp;omega))))|((with_reducible apply W3);(simp (disch:=omega);exact Rz)))
  (with_reducible apply e_call);(simp;exact Rz);exact kn _
  rintro _ _ ⟨rfl,rfl⟩
  repeat (first|(with_reducible first|apply X1|apply X2|apply X6|apply X8)|((with_reducible apply e_end);(simp;exact Rz))|((with_reducible apply O1);rfl;(simp (disch:=omega);exact Rz);exact Rz;(focus (first|(simp;done)|omega|(simp;omega)))))
  have hgo:=hgo [AObj.cells [.slice p.tid p.toff p.tn 9 p.tex,.slice p.bid p.boff c.bs.length 3 p.bex,.slice p.hid p.hoff c.hs.length 5 p.hex,.int .i64 c.w1,.int .i64 c.w2,.int .i64 c.y1,.int .i64 c.y2,.int .i64 c.rate,.int .i64 c.lim,.int .i64 c.base] true,AObj.cells [.slice p.tid p.toff p.tn 9 p.tex,.slice p.bid p.boff c.bs.length 3 p.bex,.slice p.hid p.hoff c.hs.length 5 p.hex,.int .i64 c.w1,.int .i64 c.w2,.int .i64 c.y1,.int .i64 c.y2,.int .i64 c.rate,.int .i64 c.lim,.int .i64 c.base] true]
  obtain⟨A,hA⟩:∃ A,A=H++([AObj.cells [.slice p.tid p.toff p.tn 9 p.tex,.slice p.bid p.boff c.bs.length 3 p.bex,.slice p.hid p.hoff c.hs.length 5 p.hex,.int .i64 c.w1,.int .i64 c.w2,.int .i64 c.y1,.int .i64 c.y2,.int .i64 c.rate,.int .i64 c.lim,.int .i64 c.base] true,AObj.cells [.slice p.tid p.toff p.tn 9 p.tex,.slice p.bid p.boff c.bs.length 3 p.bex,.slice p.hid p.hoff c.hs.length 5 p.hex,.int .i64 c.w1,.int .i64 c.w2,.int .i64 c.y1,.int .i64 c.y2,.int .i64 c.rate,.int .i64 c.lim,.int .i64 c.base] true]++goO (H++[AObj.cells [.slice p.tid p.toff p.tn 9 p.tex,.slice p.bid p.boff c.bs.length 3 p.bex,.slice p.hid p.hoff c.hs.length 5 p.hex,.int .i64 c.w1,.int .i64 c.w2,.int .i64 c.y1,.int .i64 c.y2,.int .i64 c.rate,.int .i64 c.lim,.int .i64 c.base] true,AObj.cells [.slice p.tid p.toff p.tn 9 p.tex,.slice p.bid p.boff c.bs.length 3 p.bex,.slice p.hid p.hoff c.hs.length 5 p.hex,.int .i64 c.w1,.int .i64 c.w2,.int .i64 c.y1,.int .i64 c.y2,.int .i64 c.rate,.int .i64 c.lim,.int .i64 c.base] true]).length c.hs.length (ndR c) c.bs.length []):=⟨_,rfl⟩
  rw [List.append_assoc] at hgo
  rw [← hA] at hgo
  have hAH:H.length≤A.length:=by rw [hA];simp
  have hpA:CvAt A c p:=by rw [hA];exact hp.app _
  have hb2:rd A (H.length+1) 0 10=some [.slice p.tid p.toff p.tn 9 p.tex,.slice p.bid p.boff c.bs.length 3 p.bex,.slice p.hid p.hoff c.hs.length 5 p.hex,.int .i64 c.w1,.int .i64 c.w2,.int .i64 c.y1,.int .i64 c.y2,.int .i64 c.rate,.int .i64 c.lim,.int .i64 c.base]:=by rw [hA];simp
  have hb4:=rd_lt hb2
  obtain⟨gid,hge,hgid,hgr⟩:=hgo
  have hgl:(H++[AObj.cells [.slice p.tid p.toff p.tn 9 p.tex,.slice p.bid p.boff c.bs.length 3 p.bex,.slice p.hid p.hoff c.hs.length 5 p.hex,.int .i64 c.w1,.int .i64 c.w2,.int .i64 c.y1,.int .i64 c.y2,.int .i64 c.rate,.int .i64 c.lim,.int .i64 c.base] true,AObj.cells [.slice p.tid p.toff p.tn 9 p.tex,.slice p.bid p.boff c.bs.length 3 p.bex,.slice p.hid p.hoff c.hs.length 5 p.hex,.int .i64 c.w1,.int .i64 c.w2,.int .i64 c.y1,.int .i64 c.y2,.int .i64 c.rate,.int .i64 c.lim,.int .i64 c.base] true]).length=gid:=by injection hge
  have hgl2:H.length+2=gid:=by simpa using hgl
  have hgo2:GoAt A (.slice gid 0 c.bs.length 1 false) c.hs.length (ndR c) c.bs.length:=⟨gid,rfl,hgid,hgr⟩
  have ks:=fun G last hla=>c_short (A++G) c p (hpA.app G) l.length hc h12.2 gid (hgo2.app G) last hla
  simp only [Cv.av] at ks
  refine e_loop (ι:={ x:Nat × Heap // x.1≤c.hs.length∧∀ k,k<x.1→shN c k=0 })
    (fun x=>[(6,.ptr (H.length+1) 0),(7,.slice gid 0 c.bs.length 1 false),(21,.int .i64 c.hs.length),(22,.int .i64 x.1.1)])
    (fun x=>A++x.1.2) (fun x=>c.hs.length-x.1.1) ⟨(0,[]),by simp,fun k hk=>by omega⟩ ?_ ?_
  · refine .inl ?_
    dsimp only
    rw [List.append_nil,hA,← hgl2];simp
  · rintro⟨⟨last,G⟩,hla,hz⟩
    dsimp only at hla hz ⊢
    by_cases hlt:last<c.hs.length
    · have hlt2:(last:Int)<c.hs.length:=by omega
      repeat (first|(with_reducible first|apply X1|apply X2|apply X5|apply X6|apply X8)|((with_reducible apply e_end);(simp;exact Rz))|((with_reducible apply O1);rfl;(simp (disch:=omega) [hlt,hlt2,rd_old _ hb4,hb2];exact Rz);exact Rz;(focus (first|(simp;done)|omega|(simp;omega))))|((with_reducible apply Z9);(simp (disch:=omega) [hlt,hlt2,rd_old _ hb4,hb2];exact Rz)))
      (with_reducible apply e_call);(simp;exact Rz);exact ks _ last hlt
      rintro _ _ ⟨g,w,rfl,hL⟩
      repeat (first|(with_reducible first|apply X1|apply X2|apply X8)|((with_reducible apply e_end);(simp;exact Rz))|((with_reducible apply O1);rfl;(simp (disch:=omega);exact Rz);exact Rz;(focus (first|(simp;done)|omega|(simp;omega)))))
      (with_reducible apply e_op);rfl;exact RAt.len hL.all.l.r _ (by simp);exact Rz;trivial
      have hL:LS (A++G) (shN c last) w (shW c last (2 ^ last)) _ g:=hL
      have hnb:shN c last≤2 ^ 7:=Nat.le_trans (shL_le c last _) (Nat.pow_le_pow_right (by omega) (by omega))
      change EOps _ _ _ ((30,.int .i64 (shN c last)) :: _) _
      by_cases h0:0<shN c last
      · have h02:(0:Int)<shN c last:=by omega
        have hLa:=hL.all
        obtain⟨hcl,⟨_,h1⟩|⟨id,h1,rfl,hh⟩⟩:=hLa
        · omega
        have hid:id<(A++G++g).length:=(List.getElem?_eq_some_iff.1 hh).1
        have hidl:id<A.length+(G.length+g.length):=by simpa using hid
        have kf:=c_first (A++G++g) id (shN c last) false h0 (by omega) hid w (shW c last (2 ^ last)) (fun k hk=>⟨hL.all.at1 hk,(hL.rows k hk).l.r,by have:=memL_le ((shL c last (2 ^ last)).getD k 0) 8;simp only [shW];omega⟩)
        have hmle:=fstI_le (shW c last (2 ^ last)) (shN c last-1)
        have hrow:=hL.rows (fstI (shW c last (2 ^ last)) (shN c last-1)) (by omega)
        have hrge:=hL.rge (fstI (shW c last (2 ^ last)) (shN c last-1)) (by omega)
        rw [List.append_assoc] at kf hrow
        repeat (first|(with_reducible first|apply X1|apply X2|apply X8)|((with_reducible apply e_end);(simp;exact Rz))|((with_reducible apply O1);rfl;(simp (disch:=omega) [h02,h0];exact Rz);exact Rz;(focus (first|(simp;done)|omega|(simp;omega))))|((with_reducible apply Z9);(simp (disch:=omega) [h02,h0];exact Rz)))
        (with_reducible apply e_call);(simp;exact Rz);exact kf
        rintro _ _ ⟨rfl,rfl⟩
        repeat (first|(with_reducible first|apply X3|apply X8|apply X9|apply Y3|apply Y5)|((with_reducible apply e_end);(simp;exact Rz))|((with_reducible apply O1);rfl;(simp (disch:=omega);exact Rz);exact Rz;(focus (first|(simp;done)|omega|(simp;omega)))))
        have e1:A++(G++g)=H++(A.drop H.length++(G++g)):=by rw [← List.append_assoc H];congr 1;rw [hA];simp
        rw [e1] at hrow ⊢
        exact q_post (v':=.tuple [.int .i64 last,lsV H 1 (shOf c last).length,.int .i64 0]) (.inr rfl) (by simp;exact Rz) (le_ls (fun x=>.tuple [.int .i64 last,x,.int .i64 0]) (fun _ _=>by simp [AV.ren,renL]) (fun _ _ h=>by simpa [AV.sc,scL] using h) (iv_plain _) hrow (fun q hq=>by have:=hrge q hq;simp at this;omega)) (.inl ⟨last,hlt,hz,h0,rfl,rfl⟩)
      · have h02:¬ (0:Int)<shN c last:=by omega
        have hz0:shN c last=0:=by omega
        repeat (first|(with_reducible first|apply X2|apply X5|apply X8|apply Y2)|((with_reducible apply e_end);(simp;exact Rz))|((with_reducible apply O1);rfl;(simp (disch:=omega) [h02,h0];exact Rz);exact Rz;(focus (first|(simp;done)|omega|(simp;omega))))|((with_reducible apply W3);(simp (disch:=omega) [h02,h0];exact Rz)))
        refine q_again ⟨(last+1,G++g),hlt,fun k hk=>?_⟩ (by dsimp only;omega) (.inl (by simp))
        by_cases hkl:k=last
        · rw [hkl];exact hz0
        · exact hz k (by omega)
    · have hlt2:¬ (last:Int)<c.hs.length:=by omega
      obtain rfl:last=c.hs.length:=by omega
      repeat (first|(with_reducible first|apply X1|apply X2|apply X3|apply X4|apply X8|apply Y1|apply Y4|apply Y6)|((with_reducible apply e_end);(simp;exact Rz))|((with_reducible apply O1);rfl;(simp (disch:=omega) [hlt2];exact Rz);exact Rz;(focus (first|(simp;done)|omega|(simp;omega))))|((with_reducible apply W3);(simp (disch:=omega) [hlt2];exact Rz)))
      rw [hA,List.append_assoc]
      exact q_drop (.inr rfl) (by simp;exact Rz) (by simp [AV.sc,scL]) (.inr ⟨hz,rfl,rfl⟩)
end Go.Proofs
