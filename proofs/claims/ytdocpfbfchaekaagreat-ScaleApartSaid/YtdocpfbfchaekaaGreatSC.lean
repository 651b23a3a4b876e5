/- Several texts as one. -/
import Derived.Test.YtdocpfbfchaekaaGreatSB
import Derived.Test.YtdocpfbfchaekaaGreatRW
import Derived.Test.YtdocpfbfchaekaaGreatDD
import Derived.Test.YtdocpfbfchaekaaGreatSA
/- Scale: the weights for which a scale shows a number,and sums of them. -/
namespace Go.Proofs
open Go.Abs
attribute [local simp] AOp.den AOpd.ev lk cellsOf rd_new rd_new0 rd_zero rd_succ wr_new wr_new0 wr_zero wr_succ splice fillA binA scal sliceCells List.length_append argsT AV.sc scL AObj.sc resV getAll AR.get AOp.slots opdSlots opdsSlots partSlots eqAt at_new0 at_new set_new0 set_new wrap64
set_option linter.unusedSimpArgs false
set_option linter.unusedVariables false
def lwF (g x:Int):Int:=(x * 1000+1000+g-1).tdiv (1000+g)
theorem lw_bd {g x:Int} (hg:-10≤g∧g≤10) (hx:-10000000≤x∧x≤10000000):-20000000≤lwF g x∧lwF g x≤20000000:=by
  have hc:0<1000+g:=by omega
  have e3:=Int.tdiv_eq_ediv (a:=x * 1000+1000+g-1) (b:=1000+g)
  rw [Int.sign_eq_one_of_pos hc] at e3
  have h1:=Int.ediv_mul_le (x * 1000+1000+g-1) (b:=1000+g) (by omega)
  have h2:=Int.lt_ediv_add_one_mul_self (x * 1000+1000+g-1) hc
  simp only [lwF]
  generalize (x * 1000+1000+g-1) / (1000+g)=q at *
  have h3:-19000000≤q:=by
    refine Int.not_lt.1 fun h=>?_
    have:(q+1) * (1000+g)≤(-19000000) * (1000+g):=Int.mul_le_mul_of_nonneg_right (by omega) (by omega)
    omega
  have h4:q≤19000000:=by
    refine Int.not_lt.1 fun h=>?_
    have:19000001 * (1000+g)≤q * (1000+g):=Int.mul_le_mul_of_nonneg_right (by omega) (by omega)
    omega
  rw [e3]
  split <;> omega
def wtLo (g o n:Int):Int:=max (lwF g (n-o)) 0
def wtHi (s:Sc) (g o n:Int):Int:=min (lwF g (n-o+s.step)-1) 1000000
theorem wt_bd {s:Sc} {g o n:Int} (hg:-10≤g∧g≤10) (ho:-4000000≤o∧o≤4000000) (hn:-2000000≤n∧n≤2000000) (hs:1≤s.step∧s.step≤500):0≤wtLo g o n∧wtLo g o n≤20000000∧-20000001≤wtHi s g o n∧wtHi s g o n≤1000000:=by
  have h1:=lw_bd (x:=n-o) hg (by omega)
  have h2:=lw_bd (x:=n-o+s.step) hg (by omega)
  simp only [wtLo,wtHi]
  omega
def gI (l:List Int) (i:Nat):Int:=l.getD i 0
theorem gI_eq {l:List Int} {i:Nat} (h:i<l.length):gI l i=l[i]:=by simp [gI,h]
def smLo (g o:Int) (ns:List Int):Nat→Int
  | 0=>0
  | j+1=>smLo g o ns j+wtLo g o (gI ns j)
def smHi (s:Sc) (g o:Int) (ns:List Int):Nat→Int
  | 0=>0
  | j+1=>smHi s g o ns j+wtHi s g o (gI ns j)
def okW (s:Sc) (ns:List Int) (g o:Int):Bool:=ns.all fun n=>decide (wtLo g o n≤wtHi s g o n)
theorem okW_iff {s:Sc} {ns:List Int} {g o:Int}:okW s ns g o=true↔∀ i,i<ns.length→wtLo g o (gI ns i)≤wtHi s g o (gI ns i):=by
  simp only [okW,List.all_eq_true,decide_eq_true_eq]
  constructor
  · intro h i hi;rw [gI_eq hi];exact h _ (List.getElem_mem hi)
  · intro h n hn
    obtain⟨i,hi,rfl⟩:=List.mem_iff_getElem.1 hn
    have:=h i hi
    rwa [gI_eq hi] at this
theorem sm_bd {s:Sc} {g o:Int} {ns:List Int} (hs:1≤s.step∧s.step≤500) (hg:-10≤g∧g≤10) (ho:-4000000≤o∧o≤4000000) (hn:∀ n∈ns,-2000000≤n∧n≤2000000):∀ j,j≤ns.length→(∀ i,i<j→wtLo g o (gI ns i)≤wtHi s g o (gI ns i)) →
    0≤smLo g o ns j∧smLo g o ns j≤smHi s g o ns j∧smHi s g o ns j≤1000000 * j
  | 0,_,_=>by simp [smLo,smHi]
  | j+1,h,hk=>by
    have ih:=sm_bd hs hg ho hn j (by omega) fun i hi=>hk i (by omega)
    have h1:=hk j (by omega)
    have h2:=wt_bd hg ho (hn (gI ns j) (by rw [gI_eq (by omega)];exact List.getElem_mem _)) hs
    simp only [smLo,smHi]
    omega
def TO (s:Sc) (ns:List Int) (g lo:Int) (j:Nat):List Nat:=(List.range j).filter fun i=>okW s ns g (lo+i)
theorem TO_succ (s:Sc) (ns:List Int) (g lo:Int) (j:Nat):TO s ns g lo (j+1)=if okW s ns g (lo+j)=true then TO s ns g lo j++[j] else TO s ns g lo j:=by
  simp only [TO,List.range_succ,List.filter_append,List.filter_cons,List.filter_nil]
  split <;> simp
def oN (s:Sc) (g:Int):Nat:=(oHiF s g s.ts.length-oLoF s g s.ts.length+1).toNat
def oAt (s:Sc) (k:Nat):Int:=oLoF s (s.gLo+k) s.ts.length
def trK (s:Sc) (ns:List Int) (k j:Nat):List (Int × Int):=(TO s ns (s.gLo+k) (oAt s k) j).map fun (i:Nat)=>(s.gLo+(k:Int),oAt s k+(i:Int))
def trT (s:Sc) (ns:List Int) (L:List Nat):List (Int × Int):=L.flatMap fun k=>trK s ns k (oN s (s.gLo+k))
theorem trT_app (s:Sc) (ns:List Int) (L:List Nat) (k:Nat):trT s ns (L++[k])=trT s ns L++trK s ns k (oN s (s.gLo+k)):=by simp [trT]
theorem trK_succ (s:Sc) (ns:List Int) (k j:Nat):trK s ns k (j+1)=if okW s ns (s.gLo+k) (oAt s k+j)=true then trK s ns k j++[(s.gLo+(k:Int),oAt s k+(j:Int))] else trK s ns k j:=by
  simp only [trK,TO_succ]
  split <;> simp
theorem trK_zero (s:Sc) (ns:List Int) (k:Nat):trK s ns k 0=[]:=rfl
def trs (s:Sc) (ns:List Int):List (Int × Int):=trT s ns (TG s s.gs)
def smP (s:Sc) (ns:List Int) (x:Int × Int):Int × Int:=(smLo x.1 x.2 ns ns.length,smHi s x.1 x.2 ns ns.length)
theorem mem_trs {s:Sc} (hs:s.ok) {ns:List Int} {x:Int × Int}:x∈trs s ns↔s.tru x.1 x.2∧okW s ns x.1 x.2=true:=by
  simp only [trs,trT,List.mem_flatMap,trK,List.mem_map,TO,List.mem_filter,List.mem_range,TG]
  constructor
  · rintro⟨k,⟨hk,hb⟩,i,⟨hi,hw⟩,rfl⟩
    refine⟨?_,hw⟩
    have hgs:=gs_eq hs
    simp only [oN] at hi
    refine (tru_in ⟨by dsimp only;omega,by dsimp only;omega⟩).2 ?_
    simp only [oAt];omega
  · rintro⟨ht,hw⟩
    have hgs:=gs_eq hs
    have hg:s.gLo≤x.1∧x.1≤s.gHi:=ht.2.1
    have h1:=(tru_in hg).1 ht
    have e1:s.gLo+((x.1-s.gLo).toNat:Int)=x.1:=by omega
    have e2:oAt s (x.1-s.gLo).toNat+(((x.2-oLoF s x.1 s.ts.length).toNat:Nat):Int)=x.2:=by simp only [oAt,e1];omega
    refine⟨(x.1-s.gLo).toNat,⟨by omega,?_⟩,(x.2-oLoF s x.1 s.ts.length).toNat,⟨?_,?_⟩,?_⟩
    · simp only [tunB,e1,decide_eq_true_eq];omega
    · simp only [oN,e1];omega
    · rw [e1,e2];exact hw
    · rw [e1,e2]
def ik (k:Int):AV:=.int .i64 k
def imO (es:List (Int × AV)) (bs:List Nat) (c:Nat):AObj:=.other (.map (es.map fun e=>(ik e.1,e.2)) bs c)
def ilook:List (Int × AV)→Int→Option AV
  | [],_=>none
  | e :: es,k=>if k=e.1 then some e.2 else ilook es k
def IMap (o:AObj) (f:Int→Option AV):Prop:=∃ es bs c,o=imO es bs c∧(es.map (·.1)).Nodup∧bs.length=es.length∧∀ k,ilook es k=f k
theorem keyEq_ik (x y:Int):keyEq (.one .int) (ik x) (ik y)=some (decide (x=y)):=by
  simp only [ik,keyEq,eqCell,if_true]
theorem find_ik (k:Int):∀ es:List (Int × AV),(ilook es k=none∧findA (.one .int) (ik k) (es.map fun e=>(ik e.1,e.2))=some none) ∨
    ∃ n v,ilook es k=some v∧findA (.one .int) (ik k) (es.map fun e=>(ik e.1,e.2))=some (some n)∧es[n]?=some (k,v)
  | []=>.inl ⟨rfl,rfl⟩
  | e :: es=>by
    by_cases h:k=e.1
    · refine .inr ⟨0,e.2,by simp [ilook,h],by simp [findA,keyEq_ik,h],by simp [h]⟩
    · rcases find_ik k es with⟨h1,h2⟩|⟨n,v,h1,h2,h3⟩
      · exact .inl ⟨by simp [ilook,h,h1],by simp [findA,keyEq_ik,h,h2]⟩
      · exact .inr ⟨n+1,v,by simp [ilook,h,h1],by simp [findA,keyEq_ik,h,h2],by simpa using h3⟩
theorem ilook_none {es:List (Int × AV)} {k:Int}:ilook es k=none↔¬ k∈es.map (·.1):=by
  induction es with
  | nil=>simp [ilook]
  | cons e es ih =>
    simp only [ilook,List.map_cons,List.mem_cons,not_or]
    by_cases h:k=e.1
    · simp [h]
    · simp [h,ih]
theorem ilook_app {es:List (Int × AV)} {k j:Int} {v:AV} (h:ilook es k=none):ilook (es++[(k,v)]) j=if j=k then some v else ilook es j:=by
  induction es with
  | nil=>simp [ilook]
  | cons e es ih =>
    simp only [ilook] at h
    split at h
    · cases h
    · rename_i hk
      simp only [List.cons_append,ilook,ih h]
      by_cases hj:j=e.1
      · subst hj
        rw [if_pos rfl,if_pos rfl,if_neg (fun h2=>hk h2.symm)]
      · rw [if_neg hj,if_neg hj]
theorem ilook_set {es:List (Int × AV)} (hd:(es.map (·.1)).Nodup) {k j:Int} {v w:AV} {n:Nat} (h:es[n]?=some (k,w)):ilook (es.set n (k,v)) j=if j=k then some v else ilook es j:=by
  induction es generalizing n with
  | nil=>simp at h
  | cons e es ih =>
    simp only [List.map_cons,List.nodup_cons] at hd
    cases n with
    | zero =>
      simp only [List.getElem?_cons_zero,Option.some.injEq] at h
      subst h
      simp only [List.set_cons_zero,ilook]
      split <;> rfl
    | succ n =>
      simp only [List.getElem?_cons_succ] at h
      have hk:k≠e.1:=fun hh=>hd.1 (by rw [← hh];exact List.mem_map.2 ⟨_,List.mem_of_getElem? h,rfl⟩)
      simp only [List.set_cons_succ,ilook,ih hd.2 h]
      by_cases hj:j=e.1
      · subst hj
        rw [if_pos rfl,if_pos rfl,if_neg (fun h2=>hk h2.symm)]
      · rw [if_neg hj,if_neg hj]
theorem ilook_erase {es:List (Int × AV)} (hd:(es.map (·.1)).Nodup) {k j:Int} {w:AV} {n:Nat} (h:es[n]?=some (k,w)):ilook (es.eraseIdx n) j=if j=k then none else ilook es j:=by
  induction es generalizing n with
  | nil=>simp at h
  | cons e es ih =>
    simp only [List.map_cons,List.nodup_cons] at hd
    cases n with
    | zero =>
      simp only [List.getElem?_cons_zero,Option.some.injEq] at h
      subst h
      simp only [List.eraseIdx_cons_zero,ilook]
      by_cases hj:j=k
      · subst hj;simp only [if_true];exact ilook_none.2 hd.1
      · simp [hj]
    | succ n =>
      simp only [List.getElem?_cons_succ] at h
      have hk:k≠e.1:=fun hh=>hd.1 (by rw [← hh];exact List.mem_map.2 ⟨_,List.mem_of_getElem? h,rfl⟩)
      simp only [List.eraseIdx_cons_succ,ilook,ih hd.2 h]
      by_cases hj:j=e.1
      · subst hj
        rw [if_pos rfl,if_pos rfl,if_neg (fun h2=>hk h2.symm)]
      · rw [if_neg hj,if_neg hj]
theorem imap_er {α β:Type} (g:α→β):∀ (l:List α) (n:Nat),(l.map g).eraseIdx n=(l.eraseIdx n).map g
  | [],_=>by simp
  | a :: l,0=>by simp
  | a :: l,n+1=>by simp [imap_er g l n]
def updI (f:Int→Option AV) (k:Int) (v:AV):Int→Option AV:=fun j=>if j=k then some v else f j
def delI (f:Int→Option AV) (k:Int):Int→Option AV:=fun j=>if j=k then none else f j
theorem IMap.nil:IMap (.other (.map [] [] 0)) (fun _=>none):=⟨[],[],0,rfl,List.nodup_nil,rfl,fun _=>rfl⟩
section
variable {m i x:AOpd} {ev:AOpd→AV} {h:Heap} {id:Nat} {k:Int} {o:AObj} {f:Int→Option AV} {z v:AV}
theorem den_getI (hm:ev m=.map id) (hi:ev i=ik k) (hh:h[id]?=some o) (hp:IMap o f):(AOp.mapGet false z (.one .int) m i).den ev h=.ok True ((f k).getD z) h:=by
  obtain⟨es,bs,c,rfl,hd,hb,hf⟩:=hp
  simp only [AOp.den,AOp.fx,hm,hi,keyEq_ik,mapAt,hh,imO,Option.isSome_some,if_true]
  rw [← hf k]
  rcases find_ik k es with⟨h1,h2⟩|⟨n,w,h1,h2,h3⟩
  · simp [h1,h2]
  · simp [h1,h2,h3]
theorem den_getI2 (hm:ev m=.map id) (hi:ev i=ik k) (hh:h[id]?=some o) (hp:IMap o f):(AOp.mapGet true z (.one .int) m i).den ev h=.ok True (.tuple [(f k).getD z,.bool (f k).isSome]) h:=by
  obtain⟨es,bs,c,rfl,hd,hb,hf⟩:=hp
  simp only [AOp.den,AOp.fx,hm,hi,keyEq_ik,mapAt,hh,imO,Option.isSome_some,if_true]
  rw [← hf k]
  rcases find_ik k es with⟨h1,h2⟩|⟨n,w,h1,h2,h3⟩
  · simp [h1,h2]
  · simp [h1,h2,h3]
theorem den_putI (hm:ev m=.map id) (hi:ev i=ik k) (hx:ev x=v) (hh:h[id]?=some o) (hp:IMap o f):∃ o',IMap o' (updI f k v)∧(AOp.mapPut (.one .int) m i x).den ev h=.ok True (.tuple []) (h.set id o'):=by
  obtain⟨es,bs,c,rfl,hd,hb,hf⟩:=hp
  simp only [AOp.den,AOp.fx,hm,hi,hx,keyEq_ik,hh,imO,Option.isSome_some,if_true]
  rcases find_ik k es with⟨h1,h2⟩|⟨n,w,h1,h2,h3⟩
  · refine⟨imO (es++[(k,v)]) (bs++[c]) (c+1),⟨_,_,_,rfl,?_,by simp [hb],fun j=>?_⟩,by simp [h2,imO]⟩
    · rw [List.map_append,List.nodup_append]
      refine⟨hd,by simp,fun a ha b hb2 hab=>?_⟩
      simp only [List.map_cons,List.map_nil,List.mem_singleton] at hb2
      subst hb2;subst hab
      exact ilook_none.1 h1 ha
    · rw [ilook_app h1,hf j];rfl
  · refine⟨imO (es.set n (k,v)) bs c,⟨_,_,_,rfl,?_,by simp [hb],fun j=>?_⟩,by simp [h2,imO,List.map_set]⟩
    · rw [List.map_set]
      have:(es.map (·.1)).set n k=es.map (·.1):=by
        apply List.ext_getElem?
        intro j
        rw [List.getElem?_set]
        split
        · rename_i hj
          subst hj
          have h4:=(List.getElem?_eq_some_iff.1 h3).2
          simp [(List.getElem?_eq_some_iff.1 h3).1,h4]
        · rfl
      rw [this];exact hd
    · rw [ilook_set hd h3,hf j];rfl
theorem den_delI (hm:ev m=.map id) (hi:ev i=ik k) (hh:h[id]?=some o) (hp:IMap o f) (hin:(f k).isSome=true):∃ o',IMap o' (delI f k)∧(AOp.mapDel (.one .int) m i).den ev h=.ok True (.tuple []) (h.set id o'):=by
  obtain⟨es,bs,c,rfl,hd,hb,hf⟩:=hp
  simp only [AOp.den,AOp.fx,hm,hi,keyEq_ik,hh,imO,Option.isSome_some,if_true]
  rcases find_ik k es with⟨h1,h2⟩|⟨n,w,h1,h2,h3⟩
  · rw [← hf k,h1] at hin;cases hin
  · have hn:=(List.getElem?_eq_some_iff.1 h3).1
    refine⟨imO (es.eraseIdx n) (bs.eraseIdx n) c,⟨_,_,_,rfl,?_,?_,fun j=>?_⟩,by simp [h2,imO,imap_er]⟩
    · exact (List.Sublist.map _ (List.eraseIdx_sublist es n)).nodup hd
    · rw [List.length_eraseIdx,List.length_eraseIdx,hb]
    · rw [ilook_erase hd h3,hf j];rfl
end
theorem ilook_mem {es:List (Int × AV)} {e:Int × AV} (hd:(es.map (·.1)).Nodup) (h:e∈es):ilook es e.1=some e.2:=by
  induction es with
  | nil=>cases h
  | cons a es ih =>
    simp only [List.map_cons,List.nodup_cons] at hd
    rcases List.mem_cons.1 h with rfl|h
    · simp [ilook]
    · have:e.1≠a.1:=fun hh=>hd.1 (by rw [← hh];exact List.mem_map.2 ⟨_,h,rfl⟩)
      simp only [ilook,if_neg this];exact ih hd.2 h
theorem IMap.sc {o:AObj} {f:Int→Option AV} (hp:IMap o f) {m:Nat} (hf:∀ k v,f k=some v→v.sc m=true):o.sc m=true:=by
  obtain⟨es,bs,c,rfl,hd,hb,hl⟩:=hp
  simp only [imO,AObj.sc,OObj.sc,List.all_eq_true,List.mem_map,Bool.and_eq_true]
  rintro _ ⟨e,he,rfl⟩
  have:=hf e.1 e.2 (by rw [← hl];exact ilook_mem hd he)
  exact⟨by simp [ik,AV.sc],this⟩
theorem e_putI {P:Program} {l:List AO} {K:St→Prop} {t:List (Nat × AV)} {h:Heap} {m i y:AOpd} {id:Nat} {k:Int} {v:AV} {o:AObj} {f:Int→Option AV} (hm:Red (m.ev t) (.map id)) (hi:Red (i.ev t) (.int .i64 k)) (hx:Red (y.ev t) v) (hh:h[id]?=some o) (hp:IMap o f)
    (hn:∀ o',IMap o' (updI f k v)→EOps P l K t (h.set id o')):EOps P (⟨none,.mapPut (.one .int) m i y,none⟩ :: l) K t h:=by
  obtain⟨o',p1,p2⟩:=den_putI (ev:=AOpd.ev t) hm hi hx hh hp
  exact e_do rfl p2 Rz trivial (hn o' p1)
theorem e_delI {P:Program} {l:List AO} {K:St→Prop} {t:List (Nat × AV)} {h:Heap} {m i:AOpd} {id:Nat} {k:Int} {o:AObj} {f:Int→Option AV} (hm:Red (m.ev t) (.map id)) (hi:Red (i.ev t) (.int .i64 k)) (hh:h[id]?=some o) (hp:IMap o f) (hin:(f k).isSome=true)
    (hn:∀ o',IMap o' (delI f k)→EOps P l K t (h.set id o')):EOps P (⟨none,.mapDel (.one .int) m i,none⟩ :: l) K t h:=by
  obtain⟨o',p1,p2⟩:=den_delI (ev:=AOpd.ev t) hm hi hh hp hin
  exact e_do rfl p2 Rz trivial (hn o' p1)
theorem at_oldI {H:Heap} (G:Heap) {i:Nat} {o:AObj} (h:H[i]?=some o):(H++G)[i]?=some o:=by
  rw [List.getElem?_append_left (List.getElem?_eq_some_iff.1 h).1];exact h
theorem e_getI2 {P:Program} {l:List AO} {K:St→Prop} {t:List (Nat × AV)} {h:Heap} {m i:AOpd} {d id:Nat} {k:Int} {z:AV} {o:AObj} {f:Int→Option AV} (hm:Red (m.ev t) (.map id)) (hi:Red (i.ev t) (.int .i64 k)) (hh:h[id]?=some o) (hp:IMap o f)
    (hn:EOps P l K ((d,.tuple [(f k).getD z,.bool (f k).isSome]) :: t) h):EOps P (⟨some d,.mapGet true z (.one .int) m i,none⟩ :: l) K t h :=
  e_op rfl (den_getI2 (ev:=AOpd.ev t) hm hi hh hp) Rz trivial hn
theorem e_getI {P:Program} {l:List AO} {K:St→Prop} {t:List (Nat × AV)} {h:Heap} {m i:AOpd} {d id:Nat} {k:Int} {z:AV} {o:AObj} {f:Int→Option AV} (hm:Red (m.ev t) (.map id)) (hi:Red (i.ev t) (.int .i64 k)) (hh:h[id]?=some o) (hp:IMap o f)
    (hn:EOps P l K ((d,(f k).getD z) :: t) h):EOps P (⟨some d,.mapGet false z (.one .int) m i,none⟩ :: l) K t h :=
  e_op rfl (den_getI (ev:=AOpd.ev t) hm hi hh hp) Rz trivial hn
theorem updI_at (f:Int→Option AV) (k:Int) (v:AV) (j:Int):updI f k v j=if j=k then some v else f j:=rfl
theorem delI_at (f:Int→Option AV) (k j:Int):delI f k j=if j=k then none else f j:=rfl
structure SP where
  s:Sc
  tid:Nat
  toff:Nat
  ex:Bool
def SP.av (p:SP):List AV:=p.s.av p.tid p.toff p.ex
theorem SP.av_length (p:SP):p.av.length=7:=rfl
def SP.tr (H:Heap) (p:SP):Prop:=rd H p.tid p.toff (p.s.ts.length * 2)=some (p.s.ts.flatMap Ti.av)∧(p.s.ts.length:Int)<1000000
theorem SP.tr.app {H:Heap} {p:SP} (h:p.tr H) (G:Heap):p.tr (H++G):=⟨by rw [rd_old _ (rd_lt h.1)];exact h.1,h.2⟩
structure BayAt (H:Heap) (id off:Nat) (B:List SP):Prop where
  rows:rd H id off (B.length * 7)=some (B.flatMap SP.av)
  trs:∀ p∈B,p.tr H
theorem BayAt.app {H:Heap} {id off:Nat} {B:List SP} (h:BayAt H id off B) (G:Heap):BayAt (H++G) id off B :=
  ⟨by rw [rd_old _ (rd_lt h.rows)];exact h.rows,fun p hp=>(h.trs p hp).app G⟩
def z7:SP:=⟨⟨0,0,0,0,0,0,[]⟩,0,0,false⟩
def bAt (B:List SP) (i:Nat):SP:=B.getD i z7
theorem bAt_eq {B:List SP} {i:Nat} (h:i<B.length):bAt B i=B[i]:=by simp [bAt,h]
theorem bAt_mem {B:List SP} {i:Nat} (h:i<B.length):bAt B i∈B:=by rw [bAt_eq h];exact List.getElem_mem h
theorem mem_bAt {B:List SP} {p:SP} (h:p∈B):∃ i,i<B.length∧bAt B i=p:=by
  obtain⟨i,hi,he⟩:=List.mem_iff_getElem.1 h
  exact⟨i,hi,by rw [bAt_eq hi];exact he⟩
theorem BayAt.row {H:Heap} {id off:Nat} {B:List SP} (h:BayAt H id off B) {i:Nat} (hi:i<B.length):rd H id (off+i * 7) 7=some (bAt B i).av:=by
  have:=rd_row SP.av_length h.rows hi
  rw [bAt_eq hi];exact this
def gdB (B:List SP) (i:Nat):Prop:=(0<i→(bAt B (i-1)).s.id<(bAt B i).s.id)∧(bAt B i).s.ok
def okB (B:List SP):Prop:=∀ i,i<B.length→gdB B i
open Classical in
noncomputable def rgN (B:List SP):Nat→Nat
  | 0=>0
  | i+1=>if rgN B i=i∧gdB B i then i+1 else rgN B i
theorem rgN_le (B:List SP):∀ i,rgN B i≤i
  | 0=>Nat.le_refl _
  | i+1=>by have:=rgN_le B i;simp only [rgN];split <;> omega
theorem rgN_all {B:List SP}:∀ {i},(∀ j,j<i→gdB B j)→rgN B i=i
  | 0,_=>rfl
  | i+1,h=>by
    have ih:=rgN_all (B:=B) (i:=i) fun j hj=>h j (by omega)
    simp only [rgN]
    rw [if_pos ⟨ih,h i (by omega)⟩]
theorem rgN_stop {B:List SP} {i:Nat} (h:rgN B i=i) (hb:¬ gdB B i):∀ k,rgN B (i+1+k)=i
  | 0=>by simp only [Nat.add_zero,rgN];rw [if_neg (fun h2=>hb h2.2)];exact h
  | k+1=>by
    have ih:=rgN_stop h hb k
    show rgN B (i+1+k+1)=i
    rw [rgN,if_neg (fun h2=>by omega)];exact ih
theorem rgN_inv {B:List SP}:∀ {i},rgN B i=i→∀ j,j<i→gdB B j
  | 0,_,_,h=>absurd h (by omega)
  | i+1,h,j,hj=>by
    simp only [rgN] at h
    split at h
    · rename_i h2
      rcases Nat.lt_or_ge j i with h3|h3
      · exact rgN_inv h2.1 j h3
      · have:j=i:=by omega
        subst this;exact h2.2
    · have:=rgN_le B i;omega
theorem rgN_ok {B:List SP}:¬ rgN B B.length<B.length↔okB B:=by
  have:=rgN_le B B.length
  constructor
  · intro h i hi;exact rgN_inv (by omega) i hi
  · intro h h2;rw [rgN_all h] at h2;omega
set_option maxHeartbeats 1000000 in
theorem c_rightB (H:Heap) (B:List SP) (id off:Nat) (ex2:Bool) (hB:BayAt H id off B) (hn:(B.length:Int)<1000000) :
    ACalls Try.prog F.scale_right [.slice id off B.length 7 ex2] H (fun v h'=>v=.int .i64 (rgN B B.length)∧h'=H):=by
  have hrl:=rd_lt hB.rows
  refine acalls_of ok_scale_right rfl fun hcl=>?_
  unfold ac_scale_right zo
  simp only [argsT,Nat.zero_add,Nat.reduceAdd]
  repeat (first|(with_reducible first|apply X1|apply X2|apply X6|apply X8)|((with_reducible apply e_end);(simp;exact Rz))|((with_reducible apply O1);rfl;(simp (disch:=omega);exact Rz);exact Rz;(focus (first|(simp;done)|omega|(simp;omega)))))
  refine e_loop (ι:={ i:Nat // i≤B.length∧rgN B i=i }) (fun i=>[(0,.slice id off B.length 7 ex2),(5,.slice id off B.length 7 ex2),(6,.int .i64 B.length),(7,.int .i64 i.1)]) (fun _=>H) (fun i=>B.length-i.1) ⟨0,by simp [rgN]⟩ ?_ ?_
  · exact .inr <| le_id (by simp;omega)
  · rintro⟨i,hi,hg⟩
    dsimp only
    by_cases hlt:i<B.length
    · have hlt2:(i:Int)<B.length:=by omega
      have hr:=hB.row hlt
      have ht:=hB.trs _ (bAt_mem hlt)
      have htl:=rd_lt ht.1
      have hm0:i * 7+7≤B.length * 7:=by omega
      obtain⟨b1,h1⟩:=bof (bAt B i).s.built
      have kb:=fun X=>c_built (H++X) (bAt B i).s (bAt B i).tid (bAt B i).toff (bAt B i).ex (by simp;omega) h1
      obtain⟨b2,h2⟩:=bof ((bAt B i).s.ts.length≤6∧∀ j,j<(bAt B i).s.ts.length→(bAt B i).s.tri ((bAt B i).s.t j))
      have kt:=fun X hs=>c_tried (H++X) (bAt B i).s (bAt B i).tid (bAt B i).toff (bAt B i).ex (by rw [rd_old _ htl];exact ht.1) ht.2 hs h2
      have hstop:¬ gdB B i→rgN B B.length=i:=fun h=>by
        have:=rgN_stop hg h (B.length-(i+1))
        rwa [show i+1+(B.length-(i+1))=B.length by omega] at this
      simp only [SP.av,Sc.av] at hr kb kt
      have tail:∀ (hid:0<i→(bAt B (i-1)).s.id<(bAt B i).s.id),(gdB B i↔(bAt B i).s.ok):=fun hid=>⟨fun h=>h.2,fun h=>⟨hid,h⟩⟩
      by_cases h0:i=0
      · have hid:0<i→(bAt B (i-1)).s.id<(bAt B i).s.id:=fun h=>by omega
        have hz:¬ 0<i:=by omega
        repeat (first|(with_reducible first|apply X1|apply X2|apply X5|apply X6|apply X8|apply Y9)|((with_reducible apply e_end);(simp;exact Rz))|((first|((with_reducible apply O1);rfl)|((with_reducible apply O2);rfl)|((with_reducible apply P1);rfl)|((with_reducible apply P2);rfl));(simp (disch:=omega) [hlt,hlt2,rd_old _ hrl,hr,hz];exact Rz);exact Rz;(focus (first|(simp;done)|omega|(simp;omega))))|((with_reducible first|apply Z8|apply Z9);(simp (disch:=omega) [hlt,hlt2,rd_old _ hrl,hr,hz];exact Rz))|((with_reducible apply Z5);(simp (disch:=omega) [hlt,hlt2,rd_old _ hrl,hr,hz];exact Rz)))
        (with_reducible apply d_call);(simp;exact Rz);exact kb _;(focus (first|(simp;done)|(simp;omega)))
        cases b1 with
        | false =>
          repeat (first|(with_reducible first|apply X1|apply X2|apply X3|apply X8|apply X9|apply Y3|apply Y5)|((with_reducible first|apply e_end|apply d_end);(simp;exact Rz))|((first|((with_reducible apply O1);rfl)|((with_reducible apply P1);rfl));(simp (disch:=omega);exact Rz);exact Rz;(focus (first|(simp;done)|omega|(simp;omega))))|((with_reducible first|apply Z8|apply Z9);(simp (disch:=omega);exact Rz))|((with_reducible apply Z6);(simp (disch:=omega);exact Rz)))
          refine q_drop (.inr rfl) (by simp;exact Rz) (by simp) ⟨by rw [hstop fun h=>absurd (h1.2 h.2.b) (by decide)],rfl⟩
        | true =>
          repeat (first|((first|((with_reducible apply P1);rfl)|((with_reducible apply P2);rfl));(simp (disch:=omega);exact Rz);exact Rz;(focus (first|(simp;done)|omega|(simp;omega))))|((with_reducible apply Z8);(simp (disch:=omega);exact Rz)))
          (with_reducible apply d_call);(simp;exact Rz);exact kt _ (h1.1 rfl).2.1;(focus (first|(simp;done)|(simp;omega)))
          cases b2 with
          | false =>
            repeat (first|(with_reducible first|apply X1|apply X2|apply X3|apply X8|apply X9|apply Y3|apply Y5)|((with_reducible first|apply e_end|apply d_end);(simp;exact Rz))|((first|((with_reducible apply O1);rfl)|((with_reducible apply P1);rfl));(simp (disch:=omega);exact Rz);exact Rz;(focus (first|(simp;done)|omega|(simp;omega))))|((with_reducible first|apply Z8|apply Z9);(simp (disch:=omega);exact Rz)))
            refine q_drop (.inr rfl) (by simp;exact Rz) (by simp) ⟨by rw [hstop fun h=>absurd (h2.2 ⟨h.2.len,h.2.tr⟩) (by decide)],rfl⟩
          | true =>
            repeat (first|(with_reducible first|apply X2|apply X5|apply X8|apply Y2)|((with_reducible first|apply e_end|apply d_end);(simp;exact Rz))|((first|((with_reducible apply O1);rfl)|((with_reducible apply P1);rfl));(simp (disch:=omega);exact Rz);exact Rz;(focus (first|(simp;done)|omega|(simp;omega))))|((with_reducible apply Z8);(simp (disch:=omega);exact Rz))|((with_reducible apply W3);(simp (disch:=omega);exact Rz)))
            refine q_again ⟨i+1,hlt,?_⟩ (by dsimp only;omega) (.inr ?_)
            · rw [rgN,if_pos ⟨hg,hid,⟨h1.1 rfl,(h2.1 rfl).1,(h2.1 rfl).2⟩⟩]
            · exact le_drop (by simp;omega)
      · have hz:0<i:=by omega
        have hr0:=hB.row (i:=i-1) (by omega)
        have hr1:rd H id (off+(i-1) * 7) 1=some [.int .i64 (bAt B (i-1)).s.id]:=by have:=rd_sub' hr0 0 1 (by omega);simpa [SP.av,Sc.av] using this
        have en:((i:Int)-1).toNat=i-1:=by omega
        have e0:(0:Int)≤(i:Int)-1:=by omega
        have e1:(i:Int)-1<B.length:=by omega
        by_cases hid1:(bAt B i).s.id≤(bAt B (i-1)).s.id
        · repeat (first|(with_reducible first|apply X1|apply X2|apply X3|apply X5|apply X6|apply X8|apply X9|apply Y3|apply Y5|apply Y9)|((with_reducible first|apply e_end|apply d_end);(simp;exact Rz))|((first|((with_reducible apply O1);rfl)|((with_reducible apply O2);rfl)|((with_reducible apply P1);rfl)|((with_reducible apply P2);rfl));(simp (disch:=omega) [hlt,hlt2,rd_old _ hrl,hr,hz,en,e0,e1,hr1,hid1];exact Rz);exact Rz;(focus (first|(simp;done)|omega|(simp;omega))))|((with_reducible first|apply Z8|apply Z9);(simp (disch:=omega) [hlt,hlt2,rd_old _ hrl,hr,hz,en,e0,e1,hr1,hid1];exact Rz))|((with_reducible apply Z6);(simp (disch:=omega) [hlt,hlt2,rd_old _ hrl,hr,hz,en,e0,e1,hr1,hid1];exact Rz)))
          refine q_drop (.inr rfl) (by simp;exact Rz) (by simp) ⟨by rw [hstop fun h=>by have:=h.1 hz;omega],rfl⟩
        have hid:0<i→(bAt B (i-1)).s.id<(bAt B i).s.id:=fun h=>by omega
        repeat (first|(with_reducible first|apply X1|apply X2|apply X5|apply X6|apply X8|apply Y9)|((with_reducible apply e_end);(simp;exact Rz))|((first|((with_reducible apply O1);rfl)|((with_reducible apply O2);rfl)|((with_reducible apply P1);rfl)|((with_reducible apply P2);rfl));(simp (disch:=omega) [hlt,hlt2,rd_old _ hrl,hr,hz,en,e0,e1,hr1,hid1];exact Rz);exact Rz;(focus (first|(simp;done)|omega|(simp;omega))))|((with_reducible first|apply Z8|apply Z9);(simp (disch:=omega) [hlt,hlt2,rd_old _ hrl,hr,hz,en,e0,e1,hr1,hid1];exact Rz)))
        (with_reducible apply d_call);(simp;exact Rz);exact kb _;(focus (first|(simp;done)|(simp;omega)))
        cases b1 with
        | false =>
          repeat (first|(with_reducible first|apply X1|apply X2|apply X3|apply X8|apply X9|apply Y3|apply Y5)|((with_reducible first|apply e_end|apply d_end);(simp;exact Rz))|((first|((with_reducible apply O1);rfl)|((with_reducible apply P1);rfl));(simp (disch:=omega);exact Rz);exact Rz;(focus (first|(simp;done)|omega|(simp;omega))))|((with_reducible first|apply Z8|apply Z9);(simp (disch:=omega);exact Rz))|((with_reducible apply Z6);(simp (disch:=omega);exact Rz)))
          refine q_drop (.inr rfl) (by simp;exact Rz) (by simp) ⟨by rw [hstop fun h=>absurd (h1.2 h.2.b) (by decide)],rfl⟩
        | true =>
          repeat (first|((first|((with_reducible apply P1);rfl)|((with_reducible apply P2);rfl));(simp (disch:=omega);exact Rz);exact Rz;(focus (first|(simp;done)|omega|(simp;omega))))|((with_reducible apply Z8);(simp (disch:=omega);exact Rz)))
          (with_reducible apply d_call);(simp;exact Rz);exact kt _ (h1.1 rfl).2.1;(focus (first|(simp;done)|(simp;omega)))
          cases b2 with
          | false =>
            repeat (first|(with_reducible first|apply X1|apply X2|apply X3|apply X8|apply X9|apply Y3|apply Y5)|((with_reducible first|apply e_end|apply d_end);(simp;exact Rz))|((first|((with_reducible apply O1);rfl)|((with_reducible apply P1);rfl));(simp (disch:=omega);exact Rz);exact Rz;(focus (first|(simp;done)|omega|(simp;omega))))|((with_reducible first|apply Z8|apply Z9);(simp (disch:=omega);exact Rz)))
            refine q_drop (.inr rfl) (by simp;exact Rz) (by simp) ⟨by rw [hstop fun h=>absurd (h2.2 ⟨h.2.len,h.2.tr⟩) (by decide)],rfl⟩
          | true =>
            repeat (first|(with_reducible first|apply X2|apply X5|apply X8|apply Y2)|((with_reducible first|apply e_end|apply d_end);(simp;exact Rz))|((first|((with_reducible apply O1);rfl)|((with_reducible apply P1);rfl));(simp (disch:=omega);exact Rz);exact Rz;(focus (first|(simp;done)|omega|(simp;omega))))|((with_reducible apply Z8);(simp (disch:=omega);exact Rz))|((with_reducible apply W3);(simp (disch:=omega);exact Rz)))
            refine q_again ⟨i+1,hlt,?_⟩ (by dsimp only;omega) (.inr ?_)
            · rw [rgN,if_pos ⟨hg,hid,⟨h1.1 rfl,(h2.1 rfl).1,(h2.1 rfl).2⟩⟩]
            · exact le_drop (by simp;omega)
    · have hlt2:¬ (i:Int)<B.length:=by omega
      obtain rfl:i=B.length:=by omega
      repeat (first|(with_reducible first|apply X1|apply X2|apply X3|apply X4|apply X8|apply Y1|apply Y4|apply Y6)|((with_reducible apply e_end);(simp;exact Rz))|((with_reducible apply O1);rfl;(simp (disch:=omega) [hlt2];exact Rz);exact Rz;(focus (first|(simp;done)|omega|(simp;omega))))|((with_reducible apply W3);(simp (disch:=omega) [hlt2];exact Rz)))
      refine q_drop0 (.inr rfl) (by simp;exact Rz) (by simp) ⟨by rw [hg],rfl⟩
def mpF (B:List SP):Nat→Int→Option AV
  | 0=>fun _=>none
  | i+1=>updI (mpF B i) (bAt B i).s.id (.agg (bAt B i).av)
theorem mpF_none {B:List SP} {k:Int}:∀ {i},(∀ j,j<i→(bAt B j).s.id≠k)→mpF B i k=none
  | 0,_=>rfl
  | i+1,h=>by
    simp only [mpF,updI_at]
    rw [if_neg (fun e=>h i (by omega) e.symm)]
    exact mpF_none fun j hj=>h j (by omega)
theorem okB_lt {B:List SP} (h:okB B):∀ {j i:Nat},i<j→j<B.length→(bAt B i).s.id<(bAt B j).s.id
  | j+1,i,h1,h2=>by
    have h3:=(h (j+1) h2).1 (by omega)
    simp only [Nat.add_sub_cancel] at h3
    rcases Nat.lt_or_ge i j with h4|h4
    · have:=okB_lt h h4 (by omega);omega
    · have:i=j:=by omega
      subst this;exact h3
theorem mpF_some {B:List SP} (h:okB B) {j:Nat}:∀ {i},j<i→i≤B.length→mpF B i (bAt B j).s.id=some (.agg (bAt B j).av)
  | i+1,h1,h2=>by
    simp only [mpF,updI_at]
    rcases Nat.lt_or_ge j i with h4|h4
    · have:=okB_lt h h4 (by omega)
      rw [if_neg (by omega)]
      exact mpF_some h h4 (by omega)
    · have:j=i:=by omega
      subst this;rw [if_pos rfl]
structure Ld where
  id:Int
  n:Int
def Ld.av (l:Ld):List AV:=[.int .i64 l.id,.int .i64 l.n]
theorem Ld.av_length (l:Ld):l.av.length=2:=rfl
def lAt (l:List Ld) (i:Nat):Ld:=l.getD i ⟨0,0⟩
theorem lAt_eq {l:List Ld} {i:Nat} (h:i<l.length):lAt l i=l[i]:=by simp [lAt,h]
def ldB (B:List SP) (l:Ld):Prop:=∃ j,j<B.length∧(bAt B j).s.id=l.id∧(bAt B j).s.can l.n
def LdAt (H:Heap) (v:AV) (ls:List Ld):Prop:=RAt H 2 v (ls.flatMap Ld.av) ls.length
set_option maxHeartbeats 2000000 in
theorem c_loadedS (H:Heap) (B:List SP) (id off:Nat) (ex2:Bool) (hB:BayAt H id off B) (hok:okB B) (hn:(B.length:Int)<1000000) (lid loff:Nat) (lex:Bool) (ls:List Ld) (hl:rd H lid loff (ls.length * 2)=some (ls.flatMap Ld.av)) (hln:(ls.length:Int)<1000000) {b:Bool} (hb:b=true↔ls.length≤6∧∀ i,i<ls.length→ldB B (lAt ls i)) :
    ACalls Try.prog F.scale_loaded [.agg [.slice id off B.length 7 ex2],.slice lid loff ls.length 2 lex] H (fun v h'=>v=.bool b∧h'=H):=by
  have hrl:=rd_lt hB.rows
  have hll:=rd_lt hl
  have hno:¬ (ls.length≤6∧∀ i,i<ls.length→ldB B (lAt ls i))→AV.bool false=.bool b:=fun h=>by rw [AV.bool.injEq];cases b;rfl;exact absurd (hb.1 rfl) h
  refine acalls_of ok_scale_loaded rfl fun hcl=>?_
  unfold ac_scale_loaded zo
  simp only [argsT,Nat.zero_add,Nat.reduceAdd]
  by_cases h6:6<ls.length
  · have h62:(6:Int)<ls.length:=by omega
    repeat (first|(with_reducible first|apply X1|apply X2|apply X3|apply X8|apply X9)|((with_reducible apply e_end);(simp;exact Rz))|((with_reducible apply O1);rfl;(simp (disch:=omega) [h6,h62];exact Rz);exact Rz;(focus (first|(simp;done)|omega|(simp;omega))))|((with_reducible apply Z9);(simp (disch:=omega) [h6,h62];exact Rz)))
    refine q_drop (.inr rfl) (by simp;exact Rz) (by simp) ⟨hno fun h=>by have:=h.1;omega,rfl⟩
  have h62:¬ (6:Int)<ls.length:=by omega
  repeat (first|(with_reducible first|apply X1|apply X2|apply X5|apply X6|apply X8)|((with_reducible apply e_end);(simp;exact Rz))|((with_reducible apply O1);rfl;(simp (disch:=omega) [h6,h62];exact Rz);exact Rz;(focus (first|(simp;done)|omega|(simp;omega))))|((with_reducible apply W3);(simp (disch:=omega) [h6,h62];exact Rz)))
  refine e_loop (ι:={ x:Nat × AObj × Heap // x.1≤B.length∧IMap x.2.1 (mpF B x.1) })
    (fun x=>[(1,.slice lid loff ls.length 2 lex),(5,.map (H.length+1)),(17,.slice id off B.length 7 ex2),(18,.int .i64 B.length),(19,.int .i64 x.1.1)])
    (fun x=>H++.cells [.slice id off B.length 7 ex2] true :: x.1.2.1 :: x.1.2.2) (fun x=>B.length-x.1.1) ⟨(0,.other (.map [] [] 0),[]),by simp,IMap.nil⟩ ?_ ?_
  · exact .inl (by simp)
  · rintro⟨⟨i,o,G⟩,hi,ho⟩
    dsimp only at hi ho ⊢
    by_cases hlt:i<B.length
    · have hlt2:(i:Int)<B.length:=by omega
      have hr:=hB.row hlt
      simp only [SP.av,Sc.av] at hr
      have hm0:i * 7+7≤B.length * 7:=by omega
      repeat (first|(with_reducible first|apply X1|apply X2|apply X5|apply X6|apply X8)|((with_reducible apply e_end);(simp;exact Rz))|((first|((with_reducible apply O1);rfl)|((with_reducible apply O2);rfl));(simp (disch:=omega) [hlt,hlt2,rd_old _ hrl,hr];exact Rz);exact Rz;(focus (first|(simp;done)|omega|(simp;omega))))|((with_reducible apply Z9);(simp (disch:=omega) [hlt,hlt2,rd_old _ hrl,hr];exact Rz)))
      refine e_putI (k:=(bAt B i).s.id) (v:=.agg (bAt B i).av) (f:=mpF B i) (by simp;exact Rz) (by simp;exact Rz) (by simp [SP.av,Sc.av];exact Rz) (by simp) ho ?_
      intro o2 ho2
      simp only [set_new,List.set_cons_succ,List.set_cons_zero]
      repeat (first|(with_reducible first|apply X2|apply X8|apply Y2)|((with_reducible apply e_end);(simp;exact Rz))|((with_reducible apply O1);rfl;(simp (disch:=omega);exact Rz);exact Rz;(focus (first|(simp;done)|omega|(simp;omega)))))
      exact q_again ⟨(i+1,o2,G++[.cells [.int .i64 (bAt B i).s.id,.int .i64 (bAt B i).s.step,.int .i64 (bAt B i).s.gLo,.int .i64 (bAt B i).s.gHi,.int .i64 (bAt B i).s.oLo,.int .i64 (bAt B i).s.oHi,.slice (bAt B i).tid (bAt B i).toff (bAt B i).s.ts.length 2 (bAt B i).ex] true]),hlt,ho2⟩ (by dsimp only;omega) (.inl (by simp))
    · have hlt2:¬ (i:Int)<B.length:=by omega
      obtain rfl:i=B.length:=by omega
      repeat (first|(with_reducible first|apply X1|apply X2|apply X4|apply X6|apply X8|apply Y1|apply Y4|apply Y6)|((with_reducible apply e_end);(simp;exact Rz))|((with_reducible apply O1);rfl;(simp (disch:=omega) [hlt2];exact Rz);exact Rz;(focus (first|(simp;done)|omega|(simp;omega))))|((with_reducible apply W3);(simp (disch:=omega) [hlt2];exact Rz)))
      refine e_loop (ι:={ x:Nat × Heap // x.1≤ls.length∧∀ j,j<x.1→ldB B (lAt ls j) })
        (fun x=>[(5,.map (H.length+1)),(28,.slice lid loff ls.length 2 lex),(29,.int .i64 ls.length),(30,.int .i64 x.1.1)])
        (fun x=>H++.cells [.slice id off B.length 7 ex2] true :: o :: x.1.2) (fun x=>ls.length-x.1.1) ⟨(0,G),by simp⟩ ?_ ?_
      · exact .inl (by simp)
      · rintro⟨⟨j,G⟩,hj,hall⟩
        dsimp only at hj hall ⊢
        by_cases hjl:j<ls.length
        · have hjl2:(j:Int)<ls.length:=by omega
          have hx:=rd_row Ld.av_length hl hjl
          rw [← lAt_eq hjl] at hx
          simp only [Ld.av] at hx
          have hm1:j * 2+2≤ls.length * 2:=by omega
          repeat (first|(with_reducible first|apply X1|apply X2|apply X5|apply X6|apply X8)|((with_reducible apply e_end);(simp;exact Rz))|((first|((with_reducible apply O1);rfl)|((with_reducible apply O2);rfl));(simp (disch:=omega) [hjl,hjl2,rd_old _ hll,hx];exact Rz);exact Rz;(focus (first|(simp;done)|omega|(simp;omega))))|((with_reducible apply Z9);(simp (disch:=omega) [hjl,hjl2,rd_old _ hll,hx];exact Rz)))
          refine e_getI2 (k:=(lAt ls j).id) (f:=mpF B B.length) (o:=o) (by simp;exact Rz) (by simp;exact Rz) (by simp) ho ?_
          by_cases hex:∃ q,q<B.length∧(bAt B q).s.id=(lAt ls j).id
          · obtain⟨q,hq,hqe⟩:=hex
            have hf:=mpF_some hok hq (Nat.le_refl _)
            rw [hqe] at hf
            have hqt:=hB.trs _ (bAt_mem hq)
            have hqtl:=rd_lt hqt.1
            rw [hf]
            simp only [Option.getD_some,Option.isSome_some,SP.av,Sc.av]
            obtain⟨b1,h1⟩:=bof ((bAt B q).s.can (lAt ls j).n)
            have ks:=fun X=>c_showable (H++X) (bAt B q).s (bAt B q).tid (bAt B q).toff (bAt B q).ex (by simp;omega) (lAt ls j).n (hok q hq).2.b.2.1 h1
            simp only [Sc.av] at ks
            repeat (first|(with_reducible first|apply X1|apply X2|apply X8)|((with_reducible apply e_end);(simp;exact Rz))|((first|((with_reducible apply O1);rfl)|((with_reducible apply O2);rfl));(simp (disch:=omega);exact Rz);exact Rz;(focus (first|(simp;done)|omega|(simp;omega))))|((with_reducible apply Z7);(simp (disch:=omega);exact Rz)))
            (with_reducible apply e_call);(simp;exact Rz);exact ks _
            rintro _ _ ⟨rfl,rfl⟩
            cases b1 with
            | false =>
              repeat (first|(with_reducible first|apply X1|apply X2|apply X3|apply X8|apply X9|apply Y3|apply Y5)|((with_reducible apply e_end);(simp;exact Rz))|((with_reducible apply O1);rfl;(simp (disch:=omega);exact Rz);exact Rz;(focus (first|(simp;done)|omega|(simp;omega))))|((with_reducible first|apply Z7|apply Z9);(simp (disch:=omega);exact Rz)))
              refine q_drop (.inr rfl) (by simp;exact Rz) (by simp) ⟨hno fun h=>by
                obtain⟨q2,hq2,e2,h3⟩:=h.2 j hjl
                have:q2=q:=by
                  rcases Nat.lt_trichotomy q2 q with h4|h4|h4
                  · have:=okB_lt hok h4 hq;omega
                  · exact h4
                  · have:=okB_lt hok h4 hq2;omega
                subst this
                exact absurd (h1.2 h3) (by decide),rfl⟩
            | true =>
              repeat (first|(with_reducible first|apply X2|apply X5|apply X8|apply Y2)|((with_reducible apply e_end);(simp;exact Rz))|((with_reducible apply O1);rfl;(simp (disch:=omega);exact Rz);exact Rz;(focus (first|(simp;done)|omega|(simp;omega))))|((with_reducible apply Z7);(simp (disch:=omega);exact Rz))|((with_reducible apply W3);(simp (disch:=omega);exact Rz)))
              refine q_again ⟨(j+1,_),hjl,?_⟩ (by dsimp only;omega) (.inl (by simp;rfl))
              intro j2 hj2
              rcases Nat.lt_or_ge j2 j with h4|h4
              · exact hall j2 h4
              · have:j2=j:=by omega
                subst this;exact⟨q,hq,hqe,h1.1 rfl⟩
          · have hf:=mpF_none (B:=B) (k:=(lAt ls j).id) (i:=B.length) fun q hq e=>hex ⟨q,hq,e⟩
            rw [hf]
            simp only [Option.getD_none,Option.isSome_none]
            repeat (first|(with_reducible first|apply X1|apply X2|apply X3|apply X8|apply X9|apply Y3|apply Y5)|((with_reducible apply e_end);(simp;exact Rz))|((first|((with_reducible apply O1);rfl)|((with_reducible apply O2);rfl));(simp (disch:=omega);exact Rz);exact Rz;(focus (first|(simp;done)|omega|(simp;omega))))|((with_reducible apply Z9);(simp (disch:=omega);exact Rz))|((with_reducible apply Z2);(simp (disch:=omega);exact Rz)))
            refine q_drop (.inr rfl) (by simp;exact Rz) (by simp) ⟨hno fun h=>by
              obtain⟨q2,hq2,e2,_⟩:=h.2 j hjl
              exact hex ⟨q2,hq2,e2⟩,rfl⟩
        · have hjl2:¬ (j:Int)<ls.length:=by omega
          obtain rfl:j=ls.length:=by omega
          repeat (first|(with_reducible first|apply X1|apply X2|apply X3|apply X4|apply X8|apply Y1|apply Y4|apply Y6)|((with_reducible apply e_end);(simp;exact Rz))|((with_reducible apply O1);rfl;(simp (disch:=omega) [hjl2];exact Rz);exact Rz;(focus (first|(simp;done)|omega|(simp;omega))))|((with_reducible apply W3);(simp (disch:=omega) [hjl2];exact Rz)))
          refine q_drop (.inr rfl) (by simp;exact Rz) (by simp) ⟨by rw [AV.bool.injEq];exact (hb.2 ⟨by omega,hall⟩).symm,rfl⟩
set_option maxHeartbeats 2000000 in
theorem c_loadedN (H:Heap) (B:List SP) (id off:Nat) (ex2:Bool) (hB:BayAt H id off B) (hok:okB B) (hn:(B.length:Int)<1000000) :
    ACalls Try.prog F.scale_loaded [.agg [.slice id off B.length 7 ex2],.nilslice] H (fun v h'=>v=.bool true∧h'=H):=by
  have hrl:=rd_lt hB.rows
  refine acalls_of ok_scale_loaded rfl fun hcl=>?_
  unfold ac_scale_loaded zo
  simp only [argsT,Nat.zero_add,Nat.reduceAdd]
  repeat (first|(with_reducible first|apply X1|apply X2|apply X5|apply X6|apply X8)|((with_reducible apply e_end);(simp;exact Rz))|((with_reducible apply O1);rfl;(simp (disch:=omega);exact Rz);exact Rz;(focus (first|(simp;done)|omega|(simp;omega))))|((with_reducible apply W3);(simp (disch:=omega);exact Rz)))
  refine e_loop (ι:={ x:Nat × AObj × Heap // x.1≤B.length∧IMap x.2.1 (mpF B x.1) })
    (fun x=>[(1,.nilslice),(5,.map (H.length+1)),(17,.slice id off B.length 7 ex2),(18,.int .i64 B.length),(19,.int .i64 x.1.1)])
    (fun x=>H++.cells [.slice id off B.length 7 ex2] true :: x.1.2.1 :: x.1.2.2) (fun x=>B.length-x.1.1) ⟨(0,.other (.map [] [] 0),[]),by simp,IMap.nil⟩ ?_ ?_
  · exact .inl (by simp)
  · rintro⟨⟨i,o,G⟩,hi,ho⟩
    dsimp only at hi ho ⊢
    by_cases hlt:i<B.length
    · have hlt2:(i:Int)<B.length:=by omega
      have hr:=hB.row hlt
      simp only [SP.av,Sc.av] at hr
      have hm0:i * 7+7≤B.length * 7:=by omega
      repeat (first|(with_reducible first|apply X1|apply X2|apply X5|apply X6|apply X8)|((with_reducible apply e_end);(simp;exact Rz))|((first|((with_reducible apply O1);rfl)|((with_reducible apply O2);rfl));(simp (disch:=omega) [hlt,hlt2,rd_old _ hrl,hr];exact Rz);exact Rz;(focus (first|(simp;done)|omega|(simp;omega))))|((with_reducible apply Z9);(simp (disch:=omega) [hlt,hlt2,rd_old _ hrl,hr];exact Rz)))
      refine e_putI (k:=(bAt B i).s.id) (v:=.agg (bAt B i).av) (f:=mpF B i) (by simp;exact Rz) (by simp;exact Rz) (by simp [SP.av,Sc.av];exact Rz) (by simp) ho ?_
      intro o2 ho2
      simp only [set_new,List.set_cons_succ,List.set_cons_zero]
      repeat (first|(with_reducible first|apply X2|apply X8|apply Y2)|((with_reducible apply e_end);(simp;exact Rz))|((with_reducible apply O1);rfl;(simp (disch:=omega);exact Rz);exact Rz;(focus (first|(simp;done)|omega|(simp;omega)))))
      exact q_again ⟨(i+1,o2,G++[.cells [.int .i64 (bAt B i).s.id,.int .i64 (bAt B i).s.step,.int .i64 (bAt B i).s.gLo,.int .i64 (bAt B i).s.gHi,.int .i64 (bAt B i).s.oLo,.int .i64 (bAt B i).s.oHi,.slice (bAt B i).tid (bAt B i).toff (bAt B i).s.ts.length 2 (bAt B i).ex] true]),hlt,ho2⟩ (by dsimp only;omega) (.inl (by simp))
    · have hlt2:¬ (i:Int)<B.length:=by omega
      obtain rfl:i=B.length:=by omega
      repeat (first|(with_reducible first|apply X1|apply X2|apply X4|apply X6|apply X8|apply Y1|apply Y4|apply Y6)|((with_reducible apply e_end);(simp;exact Rz))|((with_reducible apply O1);rfl;(simp (disch:=omega) [hlt2];exact Rz);exact Rz;(focus (first|(simp;done)|omega|(simp;omega))))|((with_reducible apply W3);(simp (disch:=omega) [hlt2];exact Rz)))
      refine e_loop (ι:=Unit) (fun _=>[(5,.map (H.length+1)),(28,.nilslice),(29,.int .i64 0),(30,.int .i64 0)])
        (fun _=>H++.cells [.slice id off B.length 7 ex2] true :: o :: G) (fun _=>0) () ?_ ?_
      · exact .inl (by simp)
      · rintro _
        repeat (first|(with_reducible first|apply X1|apply X2|apply X3|apply X4|apply X8|apply Y1|apply Y4|apply Y6)|((with_reducible apply e_end);(simp;exact Rz))|((with_reducible apply O1);rfl;(simp (disch:=omega);exact Rz);exact Rz;(focus (first|(simp;done)|omega|(simp;omega))))|((with_reducible apply W3);(simp (disch:=omega);exact Rz)))
        refine q_drop (.inr rfl) (by simp;exact Rz) (by simp) ⟨rfl,rfl⟩
theorem c_loaded (H:Heap) (B:List SP) (id off:Nat) (ex2:Bool) (hB:BayAt H id off B) (hok:okB B) (hn:(B.length:Int)<1000000) (lv:AV) (ls:List Ld) (hl:LdAt H lv ls) (hln:(ls.length:Int)<1000000) {b:Bool} (hb:b=true↔ls.length≤6∧∀ i,i<ls.length→ldB B (lAt ls i)) :
    ACalls Try.prog F.scale_loaded [.agg [.slice id off B.length 7 ex2],lv] H (fun v h'=>v=.bool b∧h'=H):=by
  obtain⟨_,⟨rfl,h0⟩|⟨lid,loff,lex,rfl,hr⟩⟩:=hl
  · have:b=true:=hb.2 ⟨by omega,fun i hi=>by omega⟩
    subst this
    exact c_loadedN H B id off ex2 hB hok hn
  · exact c_loadedS H B id off ex2 hB hok hn lid loff lex ls hr hln hb
structure Gr where
  ls:List Ld
  added:Int
  base:Int
  jit:Int
  rs:List Int
  ks:List Int
  spread:Int
  stamp:Bool
def Gr.av (g:Gr) (lv rv kv:AV):List AV:=[lv,.int .i64 g.added,.int .i64 g.base,.int .i64 g.jit,rv,kv,.int .i64 g.spread,.bool g.stamp]
structure GAt (H:Heap) (g:Gr) (lv rv kv:AV):Prop where
  l:LdAt H lv g.ls
  r:IAt H rv g.rs
  k:IAt H kv g.ks
  ln:(g.ls.length:Int)<1000000
  rn:(g.rs.length:Int)<1000000
  kn:(g.ks.length:Int)<1000000
theorem GAt.app {H:Heap} {g:Gr} {lv rv kv:AV} (h:GAt H g lv rv kv) (G:Heap):GAt (H++G) g lv rv kv:=⟨RAt.app h.l G,RAt.app h.r G,RAt.app h.k G,h.ln,h.rn,h.kn⟩
structure Gr.bare (g:Gr):Prop where
  rl:g.rs.length≤8
  kl:g.ks.length≤8
  ad:0≤g.added∧g.added≤1000000
  ba:-1000≤g.base∧g.base≤1000
  ru:∀ x∈g.rs,-1000≤x∧x≤1000
  ji:0≤g.jit∧g.jit≤1000
  sp:0≤g.spread∧g.spread≤2000
  st:∀ x∈g.ks,0≤x∧x≤2000
theorem c_withinI (H:Heap) (lo hi:Int) (v:AV) (xs:List Int) (hI:IAt H v xs) (hn:(xs.length:Int)<1000000) {b:Bool} (hb:b=true↔∀ x∈xs,lo≤x∧x≤hi) :
    ACalls Try.prog F.span_Within [.agg [.int .i64 lo,.int .i64 hi],v] H (fun v h'=>v=.bool b∧h'=H):=by
  obtain⟨_,⟨rfl,h0⟩|⟨id,off,ex,rfl,hr⟩⟩:=hI
  · have e:xs=[]:=List.eq_nil_of_length_eq_zero h0
    have:b=true:=hb.2 (by rw [e];simp)
    subst this
    refine acalls_of ok_span_Within rfl fun hcl=>?_
    unfold ac_span_Within zo
    simp only [argsT,Nat.zero_add,Nat.reduceAdd]
    repeat (first|(with_reducible first|apply X1|apply X2|apply X6|apply X8)|((with_reducible apply e_end);(simp;exact Rz))|((with_reducible apply O1);rfl;(simp (disch:=omega);exact Rz);exact Rz;(focus (first|(simp;done)|omega|(simp;omega)))))
    refine e_loop (ι:=Unit) (fun _=>[(2,.ptr H.length 0),(7,.nilslice),(8,.int .i64 0),(9,.int .i64 0)]) (fun _=>H++[.cells [.int .i64 lo,.int .i64 hi] true]) (fun _=>0) () ?_ ?_
    · exact .inl rfl
    · rintro _
      repeat (first|(with_reducible first|apply X1|apply X2|apply X3|apply X4|apply X8|apply Y1|apply Y4|apply Y6)|((with_reducible apply e_end);(simp;exact Rz))|((with_reducible apply O1);rfl;(simp (disch:=omega);exact Rz);exact Rz;(focus (first|(simp;done)|omega|(simp;omega))))|((with_reducible apply W3);(simp (disch:=omega);exact Rz)))
      refine q_drop (.inr rfl) (by simp;exact Rz) (by simp) ⟨rfl,rfl⟩
  · have:b=(xs.all fun x=>decide (lo≤x∧x≤hi)):=by rw [Bool.eq_iff_iff,hb];simp
    subst this
    exact c_within H lo hi xs id off ex hr hn
set_option maxHeartbeats 2000000 in
theorem c_inspected (H:Heap) (g:Gr) (lv rv kv:AV) (hg:GAt H g lv rv kv) {b:Bool} (hb:b=true↔g.bare):ACalls Try.prog F.scale_inspected [.agg (g.av lv rv kv)] H (fun v h'=>v=.bool b∧h'=H):=by
  have hno:¬ g.bare→AV.bool false=.bool b:=fun h=>by rw [AV.bool.injEq];cases b;rfl;exact absurd (hb.1 rfl) h
  have sl:∀ m,lv.sc (H.length+m)=true:=fun m=>RAt.sc hg.l (by omega)
  have sr:∀ m,rv.sc (H.length+m)=true:=fun m=>RAt.sc hg.r (by omega)
  have sk:∀ m,kv.sc (H.length+m)=true:=fun m=>RAt.sc hg.k (by omega)
  have nr:=hg.rn
  have nk:=hg.kn
  simp only [Gr.av]
  refine acalls_of ok_scale_inspected rfl fun hcl=>?_
  unfold ac_scale_inspected zo
  simp only [argsT,Nat.zero_add,Nat.reduceAdd]
  repeat (first|(with_reducible first|apply X1|apply X2|apply X8)|((with_reducible apply e_end);(simp;exact Rz))|((with_reducible apply O1);rfl;(simp (disch:=omega);exact Rz);exact Rz;(focus (first|(simp;done)|omega|(simp;omega)))))
  refine O1 rfl (RAt.len hg.r _ (by simp)) Rz trivial ?_
  by_cases h1:8<g.rs.length
  · have h12:(8:Int)<g.rs.length:=by omega
    repeat (first|(with_reducible first|apply X1|apply X2|apply X3|apply X8|apply X9)|((with_reducible apply e_end);(simp;exact Rz))|((with_reducible apply O1);rfl;(simp (disch:=omega) [h1,h12];exact Rz);exact Rz;(focus (first|(simp;done)|omega|(simp;omega))))|((with_reducible apply Z9);(simp (disch:=omega) [h1,h12];exact Rz))|((with_reducible apply Z2);(simp (disch:=omega) [h1,h12];exact Rz)))
    refine q_drop (.inr rfl) (by simp;exact Rz) (by simp) ⟨hno fun h=>by have:=h.rl;omega,rfl⟩
  have h12:¬ (8:Int)<g.rs.length:=by omega
  repeat (first|((with_reducible apply O1);rfl;(simp (disch:=omega) [h1,h12];exact Rz);exact Rz;(focus (first|(simp;done)|omega|(simp;omega))))|((with_reducible apply Z7);(simp (disch:=omega) [h1,h12];exact Rz)))
  refine O1 rfl (RAt.len hg.k _ (by simp)) Rz trivial ?_
  by_cases h2:8<g.ks.length
  · have h22:(8:Int)<g.ks.length:=by omega
    repeat (first|(with_reducible first|apply X1|apply X2|apply X3|apply X8|apply X9)|((with_reducible apply e_end);(simp;exact Rz))|((with_reducible apply O1);rfl;(simp (disch:=omega) [h2,h22];exact Rz);exact Rz;(focus (first|(simp;done)|omega|(simp;omega))))|((with_reducible first|apply Z7|apply Z9);(simp (disch:=omega) [h2,h22];exact Rz)))
    refine q_drop (.inr rfl) (by simp;exact Rz) (by simp) ⟨hno fun h=>by have:=h.kl;omega,rfl⟩
  have h22:¬ (8:Int)<g.ks.length:=by omega
  repeat (first|(with_reducible first|apply X1|apply X2|apply X5|apply X8)|((with_reducible apply e_end);(simp;exact Rz))|((with_reducible apply O1);rfl;(simp (disch:=omega) [h2,h22];exact Rz);exact Rz;(focus (first|(simp;done)|omega|(simp;omega))))|((with_reducible apply Z7);(simp (disch:=omega) [h2,h22];exact Rz))|((with_reducible apply W3);(simp (disch:=omega) [h2,h22];exact Rz)))
  (with_reducible apply e_call);(simp;exact Rz);exact c_around _ _ (by omega)
  rintro _ _ ⟨rfl,rfl⟩
  skip
  (with_reducible apply e_call);(simp;exact Rz);exact c_upto _ _
  rintro _ _ ⟨rfl,rfl⟩
  repeat (first|(with_reducible first|apply X1|apply X8|apply Y9)|((with_reducible apply e_end);(simp;exact Rz))|((first|((with_reducible apply O1);rfl)|((with_reducible apply O2);rfl));(simp (disch:=omega);exact Rz);exact Rz;(focus (first|(simp;done)|omega|(simp;omega)))))
  obtain⟨c1,e1⟩:=bof (0≤g.added∧g.added≤1000000)
  (with_reducible apply d_call);(simp;exact Rz);exact c_upto _ _;(focus (first|(simp;done)|(simp;omega)))
  repeat (first|((first|((with_reducible apply P1);rfl)|((with_reducible apply P3);rfl));(simp (disch:=omega);exact Rz);exact Rz;(focus (first|(simp;done)|omega|(simp;omega))))|((with_reducible apply P6);rfl;(simp (disch:=omega);exact Rz);exact Rz;(focus (first|(simp [pr];done)|(simp [pr];omega)))))
  (with_reducible apply d_call);(simp;exact Rz);exact c_within1 _ _ _ _ _ _ _ e1 (by simp);(focus (first|(simp;done)|(simp;omega)))
  cases c1 with
  | false =>
    repeat (first|(with_reducible first|apply X3|apply X8)|((with_reducible apply d_end);(simp;exact Rz))|((with_reducible apply P1);rfl;(simp (disch:=omega);exact Rz);exact Rz;(focus (first|(simp;done)|omega|(simp;omega))))|((with_reducible apply Z5);(simp (disch:=omega);exact Rz)))
    refine q_drop (.inr rfl) (by simp;exact Rz) (by simp) ⟨hno fun h=>absurd (e1.2 h.ad) (by decide),rfl⟩
  | true =>
  repeat (first|((first|((with_reducible apply P1);rfl)|((with_reducible apply P2);rfl)|((with_reducible apply P3);rfl));(simp (disch:=omega);exact Rz);exact Rz;(focus (first|(simp;done)|omega|(simp;omega))))|((with_reducible apply Z8);(simp (disch:=omega);exact Rz)))
  obtain⟨c2,e2⟩:=bof (-1000≤g.base∧g.base≤1000)
  (with_reducible apply d_call);(simp;exact Rz);exact c_within1 _ _ _ _ _ _ _ e2 (by simp);(focus (first|(simp;done)|(simp;omega)))
  cases c2 with
  | false =>
    repeat (first|(with_reducible first|apply X3|apply X8)|((with_reducible apply d_end);(simp;exact Rz))|((with_reducible apply P1);rfl;(simp (disch:=omega);exact Rz);exact Rz;(focus (first|(simp;done)|omega|(simp;omega))))|((with_reducible apply Z5);(simp (disch:=omega);exact Rz)))
    refine q_drop (.inr rfl) (by simp;exact Rz) (by simp) ⟨hno fun h=>absurd (e2.2 h.ba) (by decide),rfl⟩
  | true =>
  repeat (first|((first|((with_reducible apply P1);rfl)|((with_reducible apply P2);rfl));(simp (disch:=omega);exact Rz);exact Rz;(focus (first|(simp;done)|omega|(simp;omega))))|((with_reducible apply Z8);(simp (disch:=omega);exact Rz)))
  obtain⟨c3,e3⟩:=bof (∀ x∈g.rs,-1000≤x∧x≤1000)
  (with_reducible apply d_call);(simp;exact Rz);exact c_withinI _ _ _ _ _ (RAt.app hg.r _) nr e3;(focus (simp [sr]))
  cases c3 with
  | false =>
    repeat (first|(with_reducible first|apply X3|apply X8)|((with_reducible apply d_end);(simp;exact Rz))|((with_reducible apply P1);rfl;(simp (disch:=omega);exact Rz);exact Rz;(focus (first|(simp;done)|omega|(simp;omega))))|((with_reducible apply Z5);(simp (disch:=omega);exact Rz)))
    refine q_drop (.inr rfl) (by simp;exact Rz) (by simp) ⟨hno fun h=>absurd (e3.2 h.ru) (by decide),rfl⟩
  | true =>
  repeat (first|((with_reducible apply P1);rfl;(simp (disch:=omega);exact Rz);exact Rz;(focus (first|(simp;done)|omega|(simp;omega))))|((with_reducible apply Z8);(simp (disch:=omega);exact Rz)))
  (with_reducible apply d_call);(simp;exact Rz);exact c_upto _ _;(focus (first|(simp;done)|(simp;omega)))
  repeat (first|((first|((with_reducible apply P1);rfl)|((with_reducible apply P3);rfl));(simp (disch:=omega);exact Rz);exact Rz;(focus (first|(simp;done)|omega|(simp;omega))))|((with_reducible apply Z8);(simp (disch:=omega);exact Rz))|((with_reducible apply P6);rfl;(simp (disch:=omega);exact Rz);exact Rz;(focus (first|(simp [pr];done)|(simp [pr];omega)))))
  obtain⟨c4,e4⟩:=bof (0≤g.jit∧g.jit≤1000)
  (with_reducible apply d_call);(simp;exact Rz);exact c_within1 _ _ _ _ _ _ _ e4 (by simp);(focus (first|(simp;done)|(simp;omega)))
  cases c4 with
  | false =>
    repeat (first|(with_reducible first|apply X3|apply X8)|((with_reducible apply d_end);(simp;exact Rz))|((with_reducible apply P1);rfl;(simp (disch:=omega);exact Rz);exact Rz;(focus (first|(simp;done)|omega|(simp;omega))))|((with_reducible apply Z5);(simp (disch:=omega);exact Rz)))
    refine q_drop (.inr rfl) (by simp;exact Rz) (by simp) ⟨hno fun h=>absurd (e4.2 h.ji) (by decide),rfl⟩
  | true =>
  repeat (first|((first|((with_reducible apply P1);rfl)|((with_reducible apply P2);rfl)|((with_reducible apply P3);rfl));(simp (disch:=omega);exact Rz);exact Rz;(focus (first|(simp;done)|omega|(simp;omega))))|((with_reducible apply Z8);(simp (disch:=omega);exact Rz)))
  obtain⟨c5,e5⟩:=bof (0≤g.spread∧g.spread≤2000)
  (with_reducible apply d_call);(simp;exact Rz);exact c_within1 _ _ _ _ _ _ _ e5 (by simp);(focus (first|(simp;done)|(simp;omega)))
  cases c5 with
  | false =>
    repeat (first|(with_reducible first|apply X3|apply X8)|((with_reducible apply d_end);(simp;exact Rz))|((with_reducible apply P1);rfl;(simp (disch:=omega);exact Rz);exact Rz;(focus (first|(simp;done)|omega|(simp;omega))))|((with_reducible apply Z5);(simp (disch:=omega);exact Rz)))
    refine q_drop (.inr rfl) (by simp;exact Rz) (by simp) ⟨hno fun h=>absurd (e5.2 h.sp) (by decide),rfl⟩
  | true =>
  repeat (first|((first|((with_reducible apply P1);rfl)|((with_reducible apply P2);rfl));(simp (disch:=omega);exact Rz);exact Rz;(focus (first|(simp;done)|omega|(simp;omega))))|((with_reducible apply Z8);(simp (disch:=omega);exact Rz)))
  obtain⟨c6,e6⟩:=bof (∀ x∈g.ks,0≤x∧x≤2000)
  (with_reducible apply d_call);(simp;exact Rz);exact c_withinI _ _ _ _ _ (RAt.app hg.k _) nk e6;(focus (simp [sk]))
  repeat (first|(with_reducible first|apply X3|apply X8)|((with_reducible apply d_end);(simp;exact Rz))|((with_reducible apply P1);rfl;(simp (disch:=omega);exact Rz);exact Rz;(focus (first|(simp;done)|omega|(simp;omega)))))
  refine q_drop (.inr rfl) (by simp;exact Rz) (by simp) ⟨by rw [AV.bool.injEq,Bool.eq_iff_iff,hb,e6];exact⟨fun h=>⟨by omega,by omega,e1.1 rfl,e2.1 rfl,e3.1 rfl,e4.1 rfl,e5.1 rfl,h⟩,fun h=>h.st⟩,rfl⟩
structure okG (B:List SP) (g:Gr):Prop where
  len:g.ls.length≤6
  ld:∀ i,i<g.ls.length→ldB B (lAt g.ls i)
  ba:g.bare
open Classical in
noncomputable def chE (B:List SP) (g:Gr):Int:=if okB B∧B.length≤4 then (if okG B g then 0 else 41) else 40
set_option maxHeartbeats 2000000 in
theorem c_Check4 (H:Heap) (B:List SP) (id off:Nat) (ex2:Bool) (hB:BayAt H id off B) (hn:(B.length:Int)<1000000) (g:Gr) (lv rv kv:AV) (hg:GAt H g lv rv kv) :
    ACalls Try.prog F.scale_Check [.agg [.slice id off B.length 7 ex2],.agg (g.av lv rv kv)] H (fun v h'=>v=.int .i64 (chE B g)∧h'=H):=by
  have hrl:=rd_lt hB.rows
  have sl:∀ m,lv.sc (H.length+m)=true:=fun m=>RAt.sc hg.l (by omega)
  have sr:∀ m,rv.sc (H.length+m)=true:=fun m=>RAt.sc hg.r (by omega)
  have sk:∀ m,kv.sc (H.length+m)=true:=fun m=>RAt.sc hg.k (by omega)
  have sl0:=sl 0
  have sr0:=sr 0
  have sk0:=sk 0
  rw [Nat.add_zero] at sl0 sr0 sk0
  obtain⟨bi,hbi⟩:=bof g.bare
  have ki:=fun X=>c_inspected (H++X) g lv rv kv (hg.app X) hbi
  obtain⟨bl,hbl⟩:=bof (g.ls.length≤6∧∀ i,i<g.ls.length→ldB B (lAt g.ls i))
  have hok:=rgN_ok (B:=B)
  simp only [Gr.av] at ki ⊢
  refine acalls_of ok_scale_Check rfl fun hcl=>?_
  unfold ac_scale_Check zo
  simp only [argsT,Nat.zero_add,Nat.reduceAdd]
  repeat (first|(with_reducible first|apply X1|apply X2|apply X8|apply Y9)|((with_reducible apply e_end);(simp;exact Rz))|((first|((with_reducible apply O1);rfl)|((with_reducible apply P1);rfl)|((with_reducible apply P2);rfl));(simp (disch:=omega);exact Rz);exact Rz;(focus (first|(simp;done)|omega|(simp;omega)))))
  (with_reducible apply d_call);(simp;exact Rz);exact c_rightB _ B _ _ _ (hB.app _) hn;(focus (first|(simp;done)|(simp;omega)))
  by_cases h1:rgN B B.length<B.length
  · have h12:(rgN B B.length:Int)<B.length:=by omega
    have e:chE B g=40:=by simp only [chE];rw [if_neg (fun h=>hok.2 h.1 h1)]
    repeat (first|(with_reducible first|apply X1|apply X2|apply X3|apply X8|apply X9)|((with_reducible first|apply e_end|apply d_end);(simp;exact Rz))|((first|((with_reducible apply O1);rfl)|((with_reducible apply P1);rfl));(simp (disch:=omega) [h1,h12];exact Rz);exact Rz;(focus (first|(simp;done)|omega|(simp;omega))))|((with_reducible apply Z9);(simp (disch:=omega) [h1,h12];exact Rz))|((with_reducible apply Z6);(simp (disch:=omega) [h1,h12];exact Rz))|((with_reducible apply P6);rfl;(simp (disch:=omega) [h1,h12];exact Rz);exact Rz;(focus (first|(simp [pr];done)|(simp [pr];omega)))))
    refine q_drop (.inr rfl) (by simp;exact Rz) (by simp) ⟨by rw [e],rfl⟩
  have hokB:=hok.1 h1
  have h12:¬ (rgN B B.length:Int)<B.length:=by omega
  repeat (first|(with_reducible apply X8)|((with_reducible apply d_end);(simp;exact Rz))|((first|((with_reducible apply P1);rfl)|((with_reducible apply P2);rfl));(simp (disch:=omega) [h1,h12];exact Rz);exact Rz;(focus (first|(simp;done)|omega|(simp;omega))))|((with_reducible apply Z8);(simp (disch:=omega) [h1,h12];exact Rz))|((with_reducible apply P6);rfl;(simp (disch:=omega) [h1,h12];exact Rz);exact Rz;(focus (first|(simp [pr];done)|(simp [pr];omega)))))
  by_cases h4:4<B.length
  · have h42:(4:Int)<B.length:=by omega
    have e:chE B g=40:=by simp only [chE];rw [if_neg (fun h=>by have:=h.2;omega)]
    repeat (first|(with_reducible first|apply X1|apply X2|apply X3|apply X8|apply X9)|((with_reducible apply e_end);(simp;exact Rz))|((with_reducible apply O1);rfl;(simp (disch:=omega) [h4,h42];exact Rz);exact Rz;(focus (first|(simp;done)|omega|(simp;omega))))|((with_reducible apply Z9);(simp (disch:=omega) [h4,h42];exact Rz)))
    refine q_drop (.inr rfl) (by simp;exact Rz) (by simp) ⟨by rw [e],rfl⟩
  have h42:¬ (4:Int)<B.length:=by omega
  repeat (first|(with_reducible first|apply X1|apply X2|apply X5|apply X8)|((with_reducible apply O1);rfl;(simp (disch:=omega) [h4,h42];exact Rz);exact Rz;(focus (first|(simp;done)|omega|(simp;omega))))|((with_reducible apply W3);(simp (disch:=omega) [h4,h42];exact Rz)))
  (with_reducible apply e_call);(simp;exact Rz);exact c_loaded _ B _ _ _ (hB.app _) hokB hn _ _ (RAt.app hg.l _) hg.ln hbl
  rintro _ _ ⟨rfl,rfl⟩
  cases bl with
  | false =>
    have e:chE B g=41:=by simp only [chE];rw [if_pos ⟨hokB,by omega⟩,if_neg (fun h=>absurd (hbl.2 ⟨h.len,h.ld⟩) (by decide))]
    repeat (first|(with_reducible first|apply X1|apply X2|apply X3|apply X8|apply X9)|((with_reducible apply e_end);(simp;exact Rz))|((with_reducible apply O1);rfl;(simp (disch:=omega);exact Rz);exact Rz;(focus (first|(simp;done)|omega|(simp;omega))))|((with_reducible apply Z9);(simp (disch:=omega);exact Rz))|((with_reducible apply Z2);(simp (disch:=omega);exact Rz)))
    refine q_drop (.inr rfl) (by simp;exact Rz) (by simp) ⟨by rw [e],rfl⟩
  | true =>
    repeat (first|((with_reducible apply O1);rfl;(simp (disch:=omega);exact Rz);exact Rz;(focus (first|(simp;done)|omega|(simp;omega))))|((with_reducible apply Z7);(simp (disch:=omega);exact Rz)))
    (with_reducible apply e_call);(simp;exact Rz);exact ki _
    rintro _ _ ⟨rfl,rfl⟩
    cases bi with
    | false =>
      have e:chE B g=41:=by simp only [chE];rw [if_pos ⟨hokB,by omega⟩,if_neg (fun h=>absurd (hbi.2 h.ba) (by decide))]
      repeat (first|(with_reducible first|apply X1|apply X2|apply X3|apply X8|apply X9)|((with_reducible apply e_end);(simp;exact Rz))|((with_reducible apply O1);rfl;(simp (disch:=omega);exact Rz);exact Rz;(focus (first|(simp;done)|omega|(simp;omega))))|((with_reducible first|apply Z7|apply Z9);(simp (disch:=omega);exact Rz)))
      refine q_drop (.inr rfl) (by simp;exact Rz) (by simp) ⟨by rw [e],rfl⟩
    | true =>
      have e:chE B g=0:=by simp only [chE];rw [if_pos ⟨hokB,by omega⟩,if_pos ⟨(hbl.1 rfl).1,(hbl.1 rfl).2,hbi.1 rfl⟩]
      repeat (first|(with_reducible first|apply X1|apply X2|apply X3|apply X5|apply X8)|((with_reducible apply e_end);(simp;exact Rz))|((with_reducible apply O1);rfl;(simp (disch:=omega);exact Rz);exact Rz;(focus (first|(simp;done)|omega|(simp;omega))))|((with_reducible apply Z7);(simp (disch:=omega);exact Rz))|((with_reducible apply W3);(simp (disch:=omega);exact Rz)))
      refine q_drop (.inr rfl) (by simp;exact Rz) (by simp) ⟨by rw [e],rfl⟩
end Go.Proofs
