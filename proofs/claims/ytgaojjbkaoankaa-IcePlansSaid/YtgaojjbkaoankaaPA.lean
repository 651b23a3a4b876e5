/- Several texts as one. -/
import Derived.Test.YtgaojjbkaoankaaDD
import Derived.Test.YtgaojjbkaoankaaKK
import Derived.Test.YtgaojjbkaoankaaA44
/- Maps with pairs of numbers as keys,as functions. -/
namespace Go.Proofs
open Go.Abs
attribute [local simp] AOp.den AOpd.ev lk cellsOf rd_new rd_new0 rd_zero rd_succ wr_new wr_new0 wr_zero wr_succ splice fillA binA scal sliceCells List.length_append argsT AV.sc scL AObj.sc resV getAll AR.get AOp.slots opdSlots opdsSlots partSlots eqAt at_new0 at_new set_new0 set_new wrap64
set_option linter.unusedSimpArgs false
set_option linter.unusedVariables false
def pk (k:Int × Int):AV:=.agg [.int .i64 k.1,.int .i64 k.2]
def pmO (es:List ((Int × Int) × AV)) (bs:List Nat) (c:Nat):AObj:=.other (.map (es.map fun e=>(pk e.1,e.2)) bs c)
def look:List ((Int × Int) × AV)→Int × Int→Option AV
  | [],_=>none
  | e :: es,k=>if k=e.1 then some e.2 else look es k
def PMap (o:AObj) (f:Int × Int→Option AV):Prop:=∃ es bs c,o=pmO es bs c∧(es.map (·.1)).Nodup∧bs.length=es.length∧∀ k,look es k=f k
theorem keyEq_pk (x y:Int × Int):keyEq (.row [.int,.int]) (pk x) (pk y)=some (decide (x=y)):=by
  simp only [pk,keyEq,eqRow,eqCell,if_true,Bool.and_true]
  congr 1
  rw [Bool.eq_iff_iff]
  simp [Prod.ext_iff]
theorem find_pk (k:Int × Int):∀ es:List ((Int × Int) × AV),(look es k=none∧findA (.row [.int,.int]) (pk k) (es.map fun e=>(pk e.1,e.2))=some none) ∨
    ∃ n v,look es k=some v∧findA (.row [.int,.int]) (pk k) (es.map fun e=>(pk e.1,e.2))=some (some n)∧es[n]?=some (k,v)
  | []=>.inl ⟨rfl,rfl⟩
  | e :: es=>by
    by_cases h:k=e.1
    · refine .inr ⟨0,e.2,by simp [look,h],by simp [findA,keyEq_pk,h],by simp [h]⟩
    · rcases find_pk k es with⟨h1,h2⟩|⟨n,v,h1,h2,h3⟩
      · exact .inl ⟨by simp [look,h,h1],by simp [findA,keyEq_pk,h,h2]⟩
      · exact .inr ⟨n+1,v,by simp [look,h,h1],by simp [findA,keyEq_pk,h,h2],by simpa using h3⟩
theorem look_none {es:List ((Int × Int) × AV)} {k:Int × Int}:look es k=none↔¬ k∈es.map (·.1):=by
  induction es with
  | nil=>simp [look]
  | cons e es ih =>
    simp only [look,List.map_cons,List.mem_cons,not_or]
    by_cases h:k=e.1
    · simp [h]
    · simp [h,ih]
theorem look_app {es:List ((Int × Int) × AV)} {k j:Int × Int} {v:AV} (h:look es k=none):look (es++[(k,v)]) j=if j=k then some v else look es j:=by
  induction es with
  | nil=>simp [look]
  | cons e es ih =>
    simp only [look] at h
    split at h
    · cases h
    · rename_i hk
      simp only [List.cons_append,look,ih h]
      by_cases hj:j=e.1
      · subst hj
        rw [if_pos rfl,if_pos rfl,if_neg (fun h2=>hk h2.symm)]
      · rw [if_neg hj,if_neg hj]
theorem look_set {es:List ((Int × Int) × AV)} (hd:(es.map (·.1)).Nodup) {k j:Int × Int} {v w:AV} {n:Nat} (h:es[n]?=some (k,w)):look (es.set n (k,v)) j=if j=k then some v else look es j:=by
  induction es generalizing n with
  | nil=>simp at h
  | cons e es ih =>
    simp only [List.map_cons,List.nodup_cons] at hd
    cases n with
    | zero =>
      simp only [List.getElem?_cons_zero,Option.some.injEq] at h
      subst h
      simp only [List.set_cons_zero,look]
      split <;> rfl
    | succ n =>
      simp only [List.getElem?_cons_succ] at h
      have hk:k≠e.1:=fun hh=>hd.1 (by rw [← hh];exact List.mem_map.2 ⟨_,List.mem_of_getElem? h,rfl⟩)
      simp only [List.set_cons_succ,look,ih hd.2 h]
      by_cases hj:j=e.1
      · subst hj
        rw [if_pos rfl,if_pos rfl,if_neg (fun h2=>hk h2.symm)]
      · rw [if_neg hj,if_neg hj]
theorem look_erase {es:List ((Int × Int) × AV)} (hd:(es.map (·.1)).Nodup) {k j:Int × Int} {w:AV} {n:Nat} (h:es[n]?=some (k,w)):look (es.eraseIdx n) j=if j=k then none else look es j:=by
  induction es generalizing n with
  | nil=>simp at h
  | cons e es ih =>
    simp only [List.map_cons,List.nodup_cons] at hd
    cases n with
    | zero =>
      simp only [List.getElem?_cons_zero,Option.some.injEq] at h
      subst h
      simp only [List.eraseIdx_cons_zero,look]
      by_cases hj:j=k
      · subst hj;simp only [if_true];exact look_none.2 hd.1
      · simp [hj]
    | succ n =>
      simp only [List.getElem?_cons_succ] at h
      have hk:k≠e.1:=fun hh=>hd.1 (by rw [← hh];exact List.mem_map.2 ⟨_,List.mem_of_getElem? h,rfl⟩)
      simp only [List.eraseIdx_cons_succ,look,ih hd.2 h]
      by_cases hj:j=e.1
      · subst hj
        rw [if_pos rfl,if_pos rfl,if_neg (fun h2=>hk h2.symm)]
      · rw [if_neg hj,if_neg hj]
theorem map_er {α β:Type} (g:α→β):∀ (l:List α) (n:Nat),(l.map g).eraseIdx n=(l.eraseIdx n).map g
  | [],_=>by simp
  | a :: l,0=>by simp
  | a :: l,n+1=>by simp [map_er g l n]
def updM (f:Int × Int→Option AV) (k:Int × Int) (v:AV):Int × Int→Option AV:=fun j=>if j=k then some v else f j
def delM (f:Int × Int→Option AV) (k:Int × Int):Int × Int→Option AV:=fun j=>if j=k then none else f j
theorem PMap.nil:PMap (.other (.map [] [] 0)) (fun _=>none):=⟨[],[],0,rfl,List.nodup_nil,rfl,fun _=>rfl⟩
section
variable {m i x:AOpd} {ev:AOpd→AV} {h:Heap} {id:Nat} {k:Int × Int} {o:AObj} {f:Int × Int→Option AV} {z v:AV}
theorem den_getM (hm:ev m=.map id) (hi:ev i=pk k) (hh:h[id]?=some o) (hp:PMap o f):(AOp.mapGet false z (.row [.int,.int]) m i).den ev h=.ok True ((f k).getD z) h:=by
  obtain⟨es,bs,c,rfl,hd,hb,hf⟩:=hp
  simp only [AOp.den,AOp.fx,hm,hi,keyEq_pk,mapAt,hh,pmO,Option.isSome_some,if_true]
  rw [← hf k]
  rcases find_pk k es with⟨h1,h2⟩|⟨n,w,h1,h2,h3⟩
  · simp [h1,h2]
  · simp [h1,h2,h3]
theorem den_getM2 (hm:ev m=.map id) (hi:ev i=pk k) (hh:h[id]?=some o) (hp:PMap o f):(AOp.mapGet true z (.row [.int,.int]) m i).den ev h=.ok True (.tuple [(f k).getD z,.bool (f k).isSome]) h:=by
  obtain⟨es,bs,c,rfl,hd,hb,hf⟩:=hp
  simp only [AOp.den,AOp.fx,hm,hi,keyEq_pk,mapAt,hh,pmO,Option.isSome_some,if_true]
  rw [← hf k]
  rcases find_pk k es with⟨h1,h2⟩|⟨n,w,h1,h2,h3⟩
  · simp [h1,h2]
  · simp [h1,h2,h3]
theorem den_putM (hm:ev m=.map id) (hi:ev i=pk k) (hx:ev x=v) (hh:h[id]?=some o) (hp:PMap o f):∃ o',PMap o' (updM f k v)∧(AOp.mapPut (.row [.int,.int]) m i x).den ev h=.ok True (.tuple []) (h.set id o'):=by
  obtain⟨es,bs,c,rfl,hd,hb,hf⟩:=hp
  simp only [AOp.den,AOp.fx,hm,hi,hx,keyEq_pk,hh,pmO,Option.isSome_some,if_true]
  rcases find_pk k es with⟨h1,h2⟩|⟨n,w,h1,h2,h3⟩
  · refine⟨pmO (es++[(k,v)]) (bs++[c]) (c+1),⟨_,_,_,rfl,?_,by simp [hb],fun j=>?_⟩,by simp [h2,pmO]⟩
    · rw [List.map_append,List.nodup_append]
      refine⟨hd,by simp,fun a ha b hb2 hab=>?_⟩
      simp only [List.map_cons,List.map_nil,List.mem_singleton] at hb2
      subst hb2;subst hab
      exact look_none.1 h1 ha
    · rw [look_app h1,hf j];rfl
  · refine⟨pmO (es.set n (k,v)) bs c,⟨_,_,_,rfl,?_,by simp [hb],fun j=>?_⟩,by simp [h2,pmO,List.map_set]⟩
    · rw [List.map_set]
      have:(es.map (·.1)).set n k=es.map (·.1):=by
        apply List.ext_getElem?
        intro j
        rw [List.getElem?_set]
        split
        · rename_i hj
          subst hj
          have h4:=(List.getElem?_eq_some_iff.1 h3).2
          simp [(List.getElem?_eq_some_iff.1 h3).1,h4]
        · rfl
      rw [this];exact hd
    · rw [look_set hd h3,hf j];rfl
theorem den_delM (hm:ev m=.map id) (hi:ev i=pk k) (hh:h[id]?=some o) (hp:PMap o f) (hin:(f k).isSome=true):∃ o',PMap o' (delM f k)∧(AOp.mapDel (.row [.int,.int]) m i).den ev h=.ok True (.tuple []) (h.set id o'):=by
  obtain⟨es,bs,c,rfl,hd,hb,hf⟩:=hp
  simp only [AOp.den,AOp.fx,hm,hi,keyEq_pk,hh,pmO,Option.isSome_some,if_true]
  rcases find_pk k es with⟨h1,h2⟩|⟨n,w,h1,h2,h3⟩
  · rw [← hf k,h1] at hin;cases hin
  · have hn:=(List.getElem?_eq_some_iff.1 h3).1
    refine⟨pmO (es.eraseIdx n) (bs.eraseIdx n) c,⟨_,_,_,rfl,?_,?_,fun j=>?_⟩,by simp [h2,pmO,map_er]⟩
    · exact (List.Sublist.map _ (List.eraseIdx_sublist es n)).nodup hd
    · rw [List.length_eraseIdx,List.length_eraseIdx,hb]
    · rw [look_erase hd h3,hf j];rfl
theorem den_clearM (hm:ev m=.map id) (hh:h[id]?=some o) (hp:PMap o f):∃ o',PMap o' (fun _=>none)∧(AOp.mapClear m).den ev h=.ok True (.tuple []) (h.set id o'):=by
  obtain⟨es,bs,c,rfl,hd,hb,hf⟩:=hp
  simp only [AOp.den,AOp.fx,hm,hh,pmO]
  exact⟨_,⟨[],[],_,rfl,List.nodup_nil,rfl,fun _=>rfl⟩,rfl⟩
end
def Chg2 (H H2:Heap):Prop:=H2.length=H.length∧∀ (i:Nat) (o:AObj),H2[i]?=some o→H[i]?=some o∨o.sc H.length=true
theorem Chg2.rfl' (H:Heap):Chg2 H H:=⟨rfl,fun _ _ h=>.inl h⟩
theorem chg2_set (H:Heap) (id:Nat) (o:AObj) (hp:o.sc H.length=true):Chg2 H (H.set id o):=by
  refine⟨by simp,fun i o' h=>?_⟩
  rw [List.getElem?_set] at h
  split at h
  · split at h
    · simp only [Option.some.injEq] at h;subst h;exact .inr hp
    · cases h
  · exact .inl h
theorem le_chg2 {H H2:Heap} {s s':St} (hc:Chg2 H H2) (h:Le H2 s s'):Le H s s':=by
  obtain⟨n,ρ,h1,h2,h3,h4⟩:=h
  refine⟨by rw [← hc.1];exact n,ρ,fun i hi=>h1 i (by rw [hc.1];exact hi),fun i o hi=>?_,h3,h4⟩
  rcases h2 i o hi with h|⟨h5,h6⟩|h
  · exact .inl h
  · rcases hc.2 i o h5 with h7|h7
    · exact .inr (.inl ⟨h7,h6⟩)
    · have h8:i<H2.length:=(List.getElem?_eq_some_iff.1 h5).1
      refine .inr (.inr ⟨asc_mono (by rw [← hc.1];exact n) _ h7,?_⟩)
      rw [h1 i h8,h6,aren_id (m:=H.length) (fun j hj=>h1 j (by rw [hc.1];exact hj)) _ h7]
  · exact .inr (.inr h)
theorem set_old {H G:Heap} {id:Nat} (h:id<H.length) (o:AObj):(H++G).set id o=H.set id o++G:=by rw [List.set_append,if_pos h]
structure FI where
  rid:Nat
  acid:Nat
  gcid:Nat
  lid:Nat
  fcid:Nat
  aid:Nat
  gid:Nat
  sid:Nat
def inK (k:Int × Int):Prop:=0≤k.1∧0≤k.2
instance (k:Int × Int):Decidable (inK k):=by unfold inK;infer_instance
def mA (A:Nat→Nat→Bool) (k:Int × Int):Option AV:=if inK k∧A k.1.toNat k.2.toNat=true then some (.bool true) else none
def mG (G:Nat→Nat→Option Nat) (k:Int × Int):Option AV:=if inK k then (G k.1.toNat k.2.toNat).map (fun u:Nat=>AV.int .i64 (u:Int)) else none
def mS (S:Nat→Nat→Option Bool) (k:Int × Int):Option AV:=if inK k then (S k.1.toNat k.2.toNat).map fun b=>.bool b else none
def putA (A:Nat→Nat→Bool) (h s:Nat):Nat→Nat→Bool:=fun h' s'=>if h'=h∧s'=s then true else A h' s'
def putG (G:Nat→Nat→Option Nat) (h s:Nat) (u:Option Nat):Nat→Nat→Option Nat:=fun h' s'=>if h'=h∧s'=s then u else G h' s'
theorem key_eq {k:Int × Int} {h s:Nat}:k=((h:Int),(s:Int))↔inK k∧k.1.toNat=h∧k.2.toNat=s:=by
  obtain⟨a,b⟩:=k
  simp only [inK,Prod.mk.injEq]
  omega
theorem upd_mA (A:Nat→Nat→Bool) (h s:Nat):updM (mA A) ((h:Int),(s:Int)) (.bool true)=mA (putA A h s):=by
  funext k
  simp only [updM,mA,putA]
  by_cases hk:k=((h:Int),(s:Int))
  · obtain⟨h1,h2,h3⟩:=key_eq.1 hk
    rw [if_pos hk]
    simp only [h1,h2,h3,and_self,if_true]
  · rw [if_neg hk]
    by_cases hi:inK k
    · have:¬ (k.1.toNat=h∧k.2.toNat=s):=fun hh=>hk (key_eq.2 ⟨hi,hh⟩)
      simp only [hi,true_and,if_neg this]
    · simp only [hi,false_and,if_false]
theorem upd_mG (G:Nat→Nat→Option Nat) (h s u:Nat):updM (mG G) ((h:Int),(s:Int)) (.int .i64 u)=mG (putG G h s (some u)):=by
  funext k
  simp only [updM,mG,putG]
  by_cases hk:k=((h:Int),(s:Int))
  · obtain⟨h1,h2,h3⟩:=key_eq.1 hk
    rw [if_pos hk,if_pos h1,if_pos ⟨h2,h3⟩];rfl
  · rw [if_neg hk]
    by_cases hi:inK k
    · have:¬ (k.1.toNat=h∧k.2.toNat=s):=fun hh=>hk (key_eq.2 ⟨hi,hh⟩)
      simp only [if_pos hi,if_neg this]
    · simp only [if_neg hi]
theorem del_mG (G:Nat→Nat→Option Nat) (h s:Nat):delM (mG G) ((h:Int),(s:Int))=mG (putG G h s none):=by
  funext k
  simp only [delM,mG,putG]
  by_cases hk:k=((h:Int),(s:Int))
  · obtain⟨h1,h2,h3⟩:=key_eq.1 hk
    rw [if_pos hk,if_pos h1,if_pos ⟨h2,h3⟩];rfl
  · rw [if_neg hk]
    by_cases hi:inK k
    · have:¬ (k.1.toNat=h∧k.2.toNat=s):=fun hh=>hk (key_eq.2 ⟨hi,hh⟩)
      simp only [if_pos hi,if_neg this]
    · simp only [if_neg hi]
theorem mA_at (A:Nat→Nat→Bool) (h s:Nat):mA A ((h:Int),(s:Int))=if A h s=true then some (.bool true) else none:=by
  have:inK ((h:Int),(s:Int)):=⟨by dsimp only;omega,by dsimp only;omega⟩
  simp only [mA,this,true_and,Int.toNat_natCast]
theorem mG_at (G:Nat→Nat→Option Nat) (h s:Nat):mG G ((h:Int),(s:Int))=(G h s).map (fun u:Nat=>AV.int .i64 (u:Int)):=by
  have:inK ((h:Int),(s:Int)):=⟨by dsimp only;omega,by dsimp only;omega⟩
  simp only [mG,this,if_true,Int.toNat_natCast]
theorem mS_at (S:Nat→Nat→Option Bool) (h s:Nat):mS S ((h:Int),(s:Int))=(S h s).map fun b=>.bool b:=by
  have:inK ((h:Int),(s:Int)):=⟨by dsimp only;omega,by dsimp only;omega⟩
  simp only [mS,this,if_true,Int.toNat_natCast]
theorem look_mem {es:List ((Int × Int) × AV)} {e:(Int × Int) × AV} (hd:(es.map (·.1)).Nodup) (h:e∈es):look es e.1=some e.2:=by
  induction es with
  | nil=>cases h
  | cons a es ih =>
    simp only [List.map_cons,List.nodup_cons] at hd
    rcases List.mem_cons.1 h with rfl|h
    · simp [look]
    · have:e.1≠a.1:=fun hh=>hd.1 (by rw [← hh];exact List.mem_map.2 ⟨_,h,rfl⟩)
      simp only [look,if_neg this];exact ih hd.2 h
theorem PMap.sc {o:AObj} {f:Int × Int→Option AV} (hp:PMap o f) {m:Nat} (hf:∀ k v,f k=some v→v.sc m=true):o.sc m=true:=by
  obtain⟨es,bs,c,rfl,hd,hb,hl⟩:=hp
  simp only [pmO,AObj.sc,OObj.sc,List.all_eq_true,List.mem_map,Bool.and_eq_true]
  rintro _ ⟨e,he,rfl⟩
  have:=hf e.1 e.2 (by rw [← hl];exact look_mem hd he)
  exact⟨by simp [pk,AV.sc,scL],this⟩
theorem mA_sc {A:Nat→Nat→Bool} {m:Nat} (k:Int × Int) (v:AV) (h:mA A k=some v):v.sc m=true:=by
  simp only [mA] at h
  split at h
  · cases h;rfl
  · cases h
theorem mG_sc {G:Nat→Nat→Option Nat} {m:Nat} (k:Int × Int) (v:AV) (h:mG G k=some v):v.sc m=true:=by
  simp only [mG] at h
  split at h
  · obtain⟨u,_,rfl⟩:=Option.map_eq_some_iff.1 h;rfl
  · cases h
structure FS (x:FI) (H:Heap) (A:Nat→Nat→Bool) (G:Nat→Nat→Option Nat) (Lf:Nat→Int) (S:Nat→Nat→Option Bool):Prop where
  rr:rd H x.rid 11 1=some [.map x.sid]
  ac:rd H x.acid 0 1=some [.map x.aid]
  gc:rd H x.gcid 0 1=some [.map x.gid]
  fc:rd H x.fcid 0 1=some [.fn (.func F.ice_roster_giver_1) [] [.ptr x.rid 0,.ptr x.acid 0,.ptr x.gcid 0,.ptr x.lid 0,.ptr x.fcid 0]]
  lf:H[x.lid]?=some (.cells (avL Lf 8) true)
  am:∃ o,H[x.aid]?=some o∧PMap o (mA A)
  gm:∃ o,H[x.gid]?=some o∧PMap o (mG G)
  sm:∃ o,H[x.sid]?=some o∧PMap o (mS S)
  n1:x.aid≠x.gid∧x.aid≠x.sid∧x.gid≠x.sid
  n2:x.lid≠x.rid∧x.lid≠x.acid∧x.lid≠x.gcid∧x.lid≠x.fcid
section
variable {x:FI} {H:Heap} {A:Nat→Nat→Bool} {G:Nat→Nat→Option Nat} {Lf:Nat→Int} {S:Nat→Nat→Option Bool}
theorem FS.alt (h:FS x H A G Lf S):x.aid<H.length:=by obtain⟨o,h1,_⟩:=h.am;exact (List.getElem?_eq_some_iff.1 h1).1
theorem FS.glt (h:FS x H A G Lf S):x.gid<H.length:=by obtain⟨o,h1,_⟩:=h.gm;exact (List.getElem?_eq_some_iff.1 h1).1
theorem FS.slt (h:FS x H A G Lf S):x.sid<H.length:=by obtain⟨o,h1,_⟩:=h.sm;exact (List.getElem?_eq_some_iff.1 h1).1
theorem FS.llt (h:FS x H A G Lf S):x.lid<H.length:=(List.getElem?_eq_some_iff.1 h.lf).1
theorem rd_set_ne {H:Heap} {i j off n:Nat} {o:AObj} (h:i≠j):rd (H.set j o) i off n=rd H i off n:=by
  unfold rd;rw [List.getElem?_set,if_neg (fun hh=>h hh.symm)]
theorem not_map {H:Heap} {i off n:Nat} {vs:List AV} {o:AObj} {f:Int × Int→Option AV} (h:rd H i off n=some vs) {j:Nat} (ho:H[j]?=some o) (hp:PMap o f):i≠j:=by
  rintro rfl
  obtain⟨es,bs,c,rfl,_⟩:=hp
  unfold rd at h
  rw [ho] at h
  simp [pmO] at h
theorem lf_ne {H:Heap} {i:Nat} {vs:List AV} {b:Bool} {o:AObj} {f:Int × Int→Option AV} (h:H[i]?=some (.cells vs b)) {j:Nat} (ho:H[j]?=some o) (hp:PMap o f):i≠j:=by
  rintro rfl
  obtain⟨es,bs,c,rfl,_⟩:=hp
  rw [ho] at h
  simp [pmO] at h
theorem FS.app (h:FS x H A G Lf S) (X:Heap):FS x (H++X) A G Lf S:=by
  obtain⟨o1,a1,a2⟩:=h.am
  obtain⟨o2,b1,b2⟩:=h.gm
  obtain⟨o3,c1,c2⟩:=h.sm
  exact⟨by rw [rd_old _ (rd_lt h.rr)];exact h.rr,by rw [rd_old _ (rd_lt h.ac)];exact h.ac,by rw [rd_old _ (rd_lt h.gc)];exact h.gc,by rw [rd_old _ (rd_lt h.fc)];exact h.fc,
    by rw [List.getElem?_append_left h.llt];exact h.lf,⟨o1,by rw [List.getElem?_append_left h.alt];exact a1,a2⟩,⟨o2,by rw [List.getElem?_append_left h.glt];exact b1,b2⟩,⟨o3,by rw [List.getElem?_append_left h.slt];exact c1,c2⟩,h.n1,h.n2⟩
theorem FS.setA (h:FS x H A G Lf S) {A':Nat→Nat→Bool} {o:AObj} (ho:PMap o (mA A')):FS x (H.set x.aid o) A' G Lf S:=by
  obtain⟨o1,a1,a2⟩:=h.am
  obtain⟨o2,b1,b2⟩:=h.gm
  obtain⟨o3,c1,c2⟩:=h.sm
  exact⟨by rw [rd_set_ne (not_map h.rr a1 a2)];exact h.rr,by rw [rd_set_ne (not_map h.ac a1 a2)];exact h.ac,by rw [rd_set_ne (not_map h.gc a1 a2)];exact h.gc,by rw [rd_set_ne (not_map h.fc a1 a2)];exact h.fc,
    by rw [List.getElem?_set,if_neg (fun hh=>lf_ne h.lf a1 a2 hh.symm)];exact h.lf,⟨o,by rw [List.getElem?_set,if_pos rfl,if_pos h.alt],ho⟩,⟨o2,by rw [List.getElem?_set,if_neg h.n1.1];exact b1,b2⟩,⟨o3,by rw [List.getElem?_set,if_neg h.n1.2.1];exact c1,c2⟩,h.n1,h.n2⟩
theorem FS.setG (h:FS x H A G Lf S) {G':Nat→Nat→Option Nat} {o:AObj} (ho:PMap o (mG G')):FS x (H.set x.gid o) A G' Lf S:=by
  obtain⟨o1,a1,a2⟩:=h.am
  obtain⟨o2,b1,b2⟩:=h.gm
  obtain⟨o3,c1,c2⟩:=h.sm
  exact⟨by rw [rd_set_ne (not_map h.rr b1 b2)];exact h.rr,by rw [rd_set_ne (not_map h.ac b1 b2)];exact h.ac,by rw [rd_set_ne (not_map h.gc b1 b2)];exact h.gc,by rw [rd_set_ne (not_map h.fc b1 b2)];exact h.fc,
    by rw [List.getElem?_set,if_neg (fun hh=>lf_ne h.lf b1 b2 hh.symm)];exact h.lf,⟨o1,by rw [List.getElem?_set,if_neg (fun hh=>h.n1.1 hh.symm)];exact a1,a2⟩,⟨o,by rw [List.getElem?_set,if_pos rfl,if_pos h.glt],ho⟩,⟨o3,by rw [List.getElem?_set,if_neg h.n1.2.2];exact c1,c2⟩,h.n1,h.n2⟩
theorem FS.setL (h:FS x H A G Lf S) (Lf':Nat→Int):FS x (H.set x.lid (.cells (avL Lf' 8) true)) A G Lf' S:=by
  obtain⟨o1,a1,a2⟩:=h.am
  obtain⟨o2,b1,b2⟩:=h.gm
  obtain⟨o3,c1,c2⟩:=h.sm
  have hl:=h.n2
  exact⟨by rw [rd_set_ne (fun hh=>hl.1 hh.symm)];exact h.rr,by rw [rd_set_ne (fun hh=>hl.2.1 hh.symm)];exact h.ac,by rw [rd_set_ne (fun hh=>hl.2.2.1 hh.symm)];exact h.gc,by rw [rd_set_ne (fun hh=>hl.2.2.2 hh.symm)];exact h.fc,
    by rw [List.getElem?_set,if_pos rfl,if_pos h.llt],⟨o1,by rw [List.getElem?_set,if_neg (lf_ne h.lf a1 a2)];exact a1,a2⟩,⟨o2,by rw [List.getElem?_set,if_neg (lf_ne h.lf b1 b2)];exact b1,b2⟩,⟨o3,by rw [List.getElem?_set,if_neg (lf_ne h.lf c1 c2)];exact c1,c2⟩,h.n1,h.n2⟩
end
def Only (x:FI) (H H2:Heap):Prop:=H2.length=H.length∧∀ i,i≠x.aid→i≠x.gid→i≠x.lid→H2[i]?=H[i]?
theorem Only.rfl' (x:FI) (H:Heap):Only x H H:=⟨rfl,fun _ _ _ _=>rfl⟩
theorem Only.trans {x:FI} {H H2 H3:Heap} (h:Only x H H2) (k:Only x H2 H3):Only x H H3:=⟨k.1.trans h.1,fun i h1 h2 h3=>(k.2 i h1 h2 h3).trans (h.2 i h1 h2 h3)⟩
theorem Only.set {x:FI} {H:Heap} {j:Nat} (o:AObj) (hj:j=x.aid∨j=x.gid∨j=x.lid):Only x H (H.set j o):=⟨by simp,fun i h1 h2 h3=>by rw [List.getElem?_set,if_neg (by omega)]⟩
theorem Only.chg {x:FI} {H H2:Heap} (h:Only x H H2) {A:Nat→Nat→Bool} {G:Nat→Nat→Option Nat} {Lf:Nat→Int} {S:Nat→Nat→Option Bool} (hf:FS x H2 A G Lf S):Chg2 H H2:=by
  refine⟨h.1,fun i o hi=>?_⟩
  obtain⟨o1,a1,a2⟩:=hf.am
  obtain⟨o2,b1,b2⟩:=hf.gm
  by_cases h1:i=x.aid
  · subst h1;rw [a1] at hi;cases hi;exact .inr (a2.sc mA_sc)
  · by_cases h2:i=x.gid
    · subst h2;rw [b1] at hi;cases hi;exact .inr (b2.sc mG_sc)
    · by_cases h3:i=x.lid
      · subst h3;rw [hf.lf] at hi;cases hi;exact .inr (avL_sc _ _ _)
      · exact .inl (by rw [← h.2 i h1 h2 h3];exact hi)
theorem Only.split {x:FI} {H2 X h':Heap} (h:Only x (H2++X) h') (h1:x.aid<H2.length) (h2:x.gid<H2.length) (h3:x.lid<H2.length):∃ H3,h'=H3++X∧Only x H2 H3:=by
  have hl:h'.length=H2.length+X.length:=by rw [h.1,List.length_append]
  refine⟨h'.take H2.length,?_,by simp;omega,fun i k1 k2 k3=>?_⟩
  · have e:h'.drop H2.length=X:=by
      apply List.ext_getElem?
      intro k
      rw [List.getElem?_drop,h.2 _ (by omega) (by omega) (by omega),List.getElem?_append_right (by omega)]
      congr 1;omega
    rw [← e,List.take_append_drop]
  · rcases Nat.lt_or_ge i H2.length with hi|hi
    · rw [List.getElem?_take,if_pos hi,h.2 i k1 k2 k3,List.getElem?_append_left hi]
    · rw [List.getElem?_eq_none (by simp;omega),List.getElem?_eq_none (by omega)]
def rvF (G:Nat→Nat→Option Nat) (h n:Nat):List (Int × Int):=((List.range n).filter fun s=>(G h s).isSome).map fun (s:Nat)=>((h:Int),(s:Int))
def rvL (G:Nat→Nat→Option Nat) (h s:Nat):List (Int × Int):=if (G h s).isSome=true then [((h:Int),(s:Int))] else rvF G h 12
theorem rvF_succ (G:Nat→Nat→Option Nat) (h n:Nat):rvF G h (n+1)=if (G h n).isSome=true then rvF G h n++[((h:Int),(n:Int))] else rvF G h n:=by
  simp only [rvF,List.range_succ,List.filter_append,List.map_append]
  cases hg:(G h n).isSome <;> simp [hg]
theorem rvF_mem {G:Nat→Nat→Option Nat} {h n:Nat} {x:Int × Int}:x∈rvF G h n↔∃ s:Nat,s<n∧(G h s).isSome=true∧x=((h:Int),(s:Int)):=by
  simp only [rvF,List.mem_map,List.mem_filter,List.mem_range]
  constructor
  · rintro⟨s,⟨h1,h2⟩,rfl⟩;exact⟨s,h1,h2,rfl⟩
  · rintro⟨s,h1,h2,rfl⟩;exact⟨s,⟨h1,h2⟩,rfl⟩
theorem rvF_len (G:Nat→Nat→Option Nat) (h n:Nat):(rvF G h n).length≤n:=by
  simp only [rvF,List.length_map]
  exact Nat.le_trans (List.length_filter_le _ _) (by simp)
theorem mG_len2 (G:Nat→Nat→Option Nat) (h s:Nat) (z:AV):AV.tuple [(mG G ((h:Int),(s:Int))).getD z,.bool (mG G ((h:Int),(s:Int))).isSome]=.tuple [match G h s with|some u=>.int .i64 (u:Int)|none=>z,.bool (G h s).isSome]:=by
  rw [mG_at]
  cases G h s <;> rfl
set_option maxHeartbeats 1000000 in
theorem c_rivals (H:Heap) (gid h s:Nat) (o:AObj) (G:Nat→Nat→Option Nat) (ho:H[gid]?=some o) (hp:PMap o (mG G)) (hh:h<100) (hs:s<100) (hG:∀ k s,(G k s).isSome=true→s<12) (hGu:∀ k s u,G k s=some u→u<100) :
    ACalls Try.prog F.ice_rivals [.map gid,.agg [.int .i64 h,.int .i64 s]] H (fun v h'=>∃ X,h'=H++X∧RAt h' 2 v (pv (rvL G h s)) (rvL G h s).length∧∀ q,isId v q→H.length≤q):=by
  have hgid:=(List.getElem?_eq_some_iff.1 ho).1
  have hgo:∀ X,(H++X)[gid]?=some o:=fun X=>by rw [List.getElem?_append_left hgid];exact ho
  refine acalls_of ok_ice_rivals rfl fun hcl=>?_
  unfold ac_ice_rivals zo
  simp only [argsT,Nat.zero_add,Nat.reduceAdd]
  repeat (first|(with_reducible first|apply X1|apply X2|apply X8)|((with_reducible apply e_end);(simp;exact Rz))|((with_reducible apply O1);rfl;(simp (disch:=omega);exact Rz);exact Rz;(focus (first|(simp;done)|omega|(simp;omega)))))
  (with_reducible apply e_op);rfl;exact den_getM2 (k:=((h:Int),(s:Int))) (f:=mG G) rfl rfl (hgo _) hp;exact Rz;trivial
  rw [mG_len2]
  cases hg:G h s with
  | some u =>
    have hr:rvL G h s=[((h:Int),(s:Int))]:=by simp [rvL,hg]
    rw [hr]
    repeat (first|(with_reducible first|apply X1|apply X2|apply X3|apply X8|apply X9)|((with_reducible apply e_end);(simp;exact Rz))|((with_reducible apply O1);rfl;(simp (disch:=omega);exact Rz);exact Rz;(focus (first|(simp;done)|omega|(simp;omega))))|((with_reducible apply Z9);(simp (disch:=omega);exact Rz)))
    exact q_stay (.inr rfl) (by simp;exact Rz) ⟨_,rfl,⟨by simp [pv],.inr ⟨_,_,_,rfl,by simp [pv]⟩⟩,fun q hq=>by have:H.length+1=q:=hq;omega⟩
  | none =>
    have hr:rvL G h s=rvF G h 12:=by simp [rvL,hg]
    rw [hr]
    repeat (first|(with_reducible first|apply X1|apply X2|apply X5|apply X6|apply X8)|((with_reducible apply e_end);(simp;exact Rz))|((with_reducible apply O1);rfl;(simp (disch:=omega);exact Rz);exact Rz;(focus (first|(simp;done)|omega|(simp;omega))))|((with_reducible apply W3);(simp (disch:=omega);exact Rz)))
    refine e_loop (ι:={ x:Nat × Heap × AV // x.1≤12∧AAt (H++.cells [.int .i64 h,.int .i64 s] true :: x.2.1) 2 x.2.2 (pv (rvF G h x.1)) (rvF G h x.1).length∧∀ q,isId x.2.2 q→H.length+1≤q })
      (fun x=>[(0,.map gid),(3,.ptr H.length 0),(7,x.1.2.2),(21,.int .i64 x.1.1)]) (fun x=>H++.cells [.int .i64 h,.int .i64 s] true :: x.1.2.1) (fun x=>12-x.1.1) ⟨(0,[],.nilslice),by simp,AAt.nil _ _,fun q hq=>hq.elim⟩ ?_ ?_
    · exact .inl rfl
    · rintro⟨⟨i,X,lv⟩,hi,hl,hlq⟩
      dsimp only at hi hl hlq ⊢
      have hlv:∀ k,lv.sc (H.length+(X.length+1+k))=true:=fun k=>hl.l.sc (by simp)
      have hlv0:lv.sc (H.length+(X.length+1))=true:=hlv 0
      by_cases hlt:i<12
      · have hlt2:(i:Int)<12:=by omega
        repeat (first|(with_reducible first|apply X1|apply X2|apply X5|apply X6|apply X8)|((with_reducible apply e_end);(simp;exact Rz))|((first|((with_reducible apply O1);rfl)|((with_reducible apply O2);rfl));(simp (disch:=omega) [hlt,hlt2];exact Rz);exact Rz;(focus (first|(simp;done)|omega|(simp;omega))))|((with_reducible apply Z9);(simp (disch:=omega) [hlt,hlt2];exact Rz)))
        (with_reducible apply e_op);rfl;exact den_getM2 (k:=((h:Int),(i:Int))) (f:=mG G) rfl rfl (hgo _) hp;exact Rz;trivial
        rw [mG_len2]
        cases hg:G h i with
        | none =>
          have e:rvF G h (i+1)=rvF G h i:=by rw [rvF_succ,hg];simp
          repeat (first|(with_reducible first|apply X1|apply X2|apply X5|apply X8|apply Y2)|((with_reducible apply e_end);(simp;exact Rz))|((with_reducible apply O1);rfl;(simp (disch:=omega);exact Rz);exact Rz;(focus (first|(simp;done)|omega|(simp;omega))))|((with_reducible apply W3);(simp (disch:=omega);exact Rz)))
          refine q_again ⟨(i+1,X++[.cells [.int .i64 h,.int .i64 i] true],lv),by dsimp only;omega,?_,hlq⟩ (by dsimp only;omega) (.inl (by simp))
          dsimp only
          rw [e]
          have:=hl.app [.cells [.int .i64 h,.int .i64 i] true]
          simpa using this
        | some u =>
          have e:rvF G h (i+1)=rvF G h i++[((h:Int),(i:Int))]:=by rw [rvF_succ,hg];simp
          have hln:=rvF_len G h i
          repeat (first|(with_reducible first|apply X1|apply X2|apply X8)|((with_reducible apply e_end);(simp;exact Rz))|((with_reducible apply O1);rfl;(simp (disch:=omega);exact Rz);exact Rz;(focus (first|(simp;done)|omega|(simp;omega))))|((with_reducible apply Z9);(simp (disch:=omega);exact Rz)))
          refine e_appA (A:=H++[.cells [.int .i64 h,.int .i64 s] true]) (G:=X++[.cells [.int .i64 h,.int .i64 i] true,.cells [.int .i64 h,.int .i64 i] true]) (cs:=pv (rvF G h i)) (n:=(rvF G h i).length) (m:=1) (new:=[.int .i64 h,.int .i64 i]) (by simp) (by simp;exact Rz) (by simp;exact Rz)
            (by have:=hl.app [.cells [.int .i64 h,.int .i64 i] true,.cells [.int .i64 h,.int .i64 i] true];simpa using this) (fun k hk=>by have:=hlq k hk;simp;omega) (by simp) (by simp) (by omega) (by omega) ?_
          intro G2 v2 f3 f4 f5 f6 f7
          simp only [List.append_assoc,List.cons_append,List.nil_append] at f3 f4 f5 f6 f7 ⊢
          have hv2:v2.sc (H.length+(G2.length+1))=true:=f3.l.sc (by simp)
          repeat (first|(with_reducible first|apply X2|apply X8|apply Y2)|((with_reducible apply e_end);(simp;exact Rz))|((with_reducible apply O1);rfl;(simp (disch:=omega);exact Rz);exact Rz;(focus (first|(simp;done)|omega|(simp;omega)))))
          refine q_again ⟨(i+1,G2,v2),by dsimp only;omega,?_,fun q hq=>by have:=f4 q hq;simp at this;omega⟩ (by dsimp only;omega) (.inl (by simp))
          dsimp only
          rw [e,pv_app,List.length_append];exact f3
      · have hlt2:¬ (i:Int)<12:=by omega
        obtain rfl:i=12:=by omega
        repeat (first|(with_reducible first|apply X1|apply X2|apply X3|apply X4|apply X8|apply Y1|apply Y4|apply Y6)|((with_reducible apply e_end);(simp;exact Rz))|((with_reducible apply O1);rfl;(simp (disch:=omega) [hlt2];exact Rz);exact Rz;(focus (first|(simp;done)|omega|(simp;omega))))|((with_reducible apply W3);(simp (disch:=omega) [hlt2];exact Rz)))
        exact q_stay (.inr rfl) (by simp;exact Rz) ⟨_,rfl,hl.l.r,fun q hq=>by have:=hlq q hq;omega⟩
end Go.Proofs
/- Plans of hands: if no hand can be found for a need,some hours are short;and if some are,there is no plan. -/
namespace Go.Hall
def sm (f:Nat→Int):Nat→Int
  | 0=>0
  | n+1=>sm f n+f n
def ct (p:Nat→Bool) (n:Nat):Int:=sm (fun i=>if p i=true then 1 else 0) n
theorem sm_le {f g:Nat→Int}:∀ {n:Nat},(∀ i,i<n→f i≤g i)→sm f n≤sm g n
  | 0,_=>Int.le_refl _
  | n+1,h=>by
    have h1:=sm_le (f:=f) (g:=g) (n:=n) fun i hi=>h i (by omega)
    have h2:=h n (by omega)
    simp only [sm];omega
theorem sm_congr {f g:Nat→Int} {n:Nat} (h:∀ i,i<n→f i=g i):sm f n=sm g n :=
  Int.le_antisymm (sm_le fun i hi=>by rw [h i hi];exact Int.le_refl _) (sm_le fun i hi=>by rw [h i hi];exact Int.le_refl _)
theorem sm_add (f g:Nat→Int):∀ n,sm (fun i=>f i+g i) n=sm f n+sm g n
  | 0=>rfl
  | n+1=>by simp only [sm,sm_add f g n];omega
theorem sm_zero:∀ n,sm (fun _=>0) n=0
  | 0=>rfl
  | n+1=>by simp only [sm,sm_zero n];rfl
theorem sm_nonneg {f:Nat→Int} {n:Nat} (h:∀ i,i<n→0≤f i):0≤sm f n:=by
  have:=sm_le (f:=fun _=>0) (g:=f) (n:=n) h
  rw [sm_zero] at this;exact this
theorem sm_comm (f:Nat→Nat→Int) (m:Nat):∀ n,sm (fun i=>sm (fun j=>f i j) m) n=sm (fun j=>sm (fun i=>f i j) n) m
  | 0=>by simp only [sm,sm_zero]
  | n+1=>by simp only [sm,sm_comm f m n,sm_add]
theorem sm_one (a:Nat):∀ n,sm (fun i=>if i=a then 1 else 0) n=if a<n then 1 else 0
  | 0=>by simp [sm]
  | n+1=>by
    simp only [sm,sm_one a n]
    by_cases h:n=a
    · subst h;simp
    · by_cases h2:a<n
      · rw [if_neg h,if_pos h2,if_pos (by omega)];rfl
      · rw [if_neg h,if_neg h2,if_neg (by omega)];rfl
theorem ct_le {p q:Nat→Bool} {n:Nat} (h:∀ i,i<n→p i=true→q i=true):ct p n≤ct q n:=sm_le fun i hi=>by
  by_cases hp:p i=true
  · rw [if_pos hp,if_pos (h i hi hp)];exact Int.le_refl _
  · rw [if_neg hp];split <;> omega
theorem ct_congr {p q:Nat→Bool} {n:Nat} (h:∀ i,i<n→p i=q i):ct p n=ct q n:=sm_congr fun i hi=>by rw [h i hi]
theorem ct_nonneg (p:Nat→Bool) (n:Nat):0≤ct p n:=sm_nonneg fun i _=>by split <;> omega
theorem ct_top (p:Nat→Bool) (n:Nat):ct p n≤n:=by
  induction n with
  | zero=>simp [ct,sm]
  | succ n ih=>simp only [ct,sm] at ih ⊢;split <;> omega
theorem ct_below (p:Nat→Bool) {d:Nat}:∀ {n:Nat},d≤n→ct (fun i=>decide (i<d) && p i) n=ct p d
  | 0,h=>by
    obtain rfl:d=0:=by omega
    rfl
  | n+1,h=>by
    by_cases hd:d=n+1
    · subst hd
      exact ct_congr fun i hi=>by simp [hi]
    · have ih:=ct_below p (d:=d) (n:=n) (by omega)
      simp only [ct,sm] at ih ⊢
      rw [ih]
      have:¬ n<d:=by omega
      simp [this]
theorem ct_split {p q r:Nat→Bool} {n:Nat} (h:∀ i,i<n→(p i=true→r i=true)∧(q i=true→r i=true)∧¬ (p i=true∧q i=true)):ct p n+ct q n≤ct r n:=by
  unfold ct
  rw [← sm_add]
  refine sm_le fun i hi=>?_
  obtain⟨h1,h2,h3⟩:=h i hi
  by_cases hp:p i=true
  · rw [if_pos hp,if_pos (h1 hp),if_neg fun hq=>h3 ⟨hp,hq⟩];omega
  · rw [if_neg hp]
    by_cases hq:q i=true
    · rw [if_pos hq,if_pos (h2 hq)];omega
    · rw [if_neg hq];split <;> omega
theorem ct_cover {p q r:Nat→Bool} {n:Nat} (h:∀ i,i<n→r i=true→p i=true∨q i=true):ct r n≤ct p n+ct q n:=by
  unfold ct
  rw [← sm_add]
  refine sm_le fun i hi=>?_
  by_cases hr:r i=true
  · rw [if_pos hr]
    rcases h i hi hr with h|h
    · rw [if_pos h];split <;> omega
    · rw [if_pos h];split <;> omega
  · rw [if_neg hr];split <;> split <;> omega
theorem ex_max {p:Nat→Prop} {m:Nat} (hb:∀ u,p u→u<m):∀ {u:Nat},p u→∃ d,p d∧∀ v,p v→v≤d:=by
  intro u hu
  induction m with
  | zero=>have:=hb u hu;omega
  | succ m ih =>
    by_cases hm:p m
    · exact⟨m,hm,fun v hv=>by have:=hb v hv;omega⟩
    · exact ih fun v hv=>by
        have:=hb v hv
        have:v≠m:=fun h=>hm (h ▸ hv)
        omega
def lackT (need:Nat→Int) (can:Nat→Bool):Nat→Int
  | 0=>0
  | d+1=>max (lackT need can d) (need d-ct can d)
theorem lackT_nonneg (need:Nat→Int) (can:Nat→Bool):∀ m,0≤lackT need can m
  | 0=>Int.le_refl _
  | m+1=>by have:=lackT_nonneg need can m;simp only [lackT];omega
theorem lackT_ge (need:Nat→Int) (can:Nat→Bool) {d:Nat}:∀ {m:Nat},d<m→need d-ct can d≤lackT need can m
  | 0,h=>by omega
  | m+1,h=>by
    simp only [lackT]
    by_cases hd:d=m
    · subst hd;omega
    · have:=lackT_ge need can (d:=d) (m:=m) (by omega);omega
theorem lackT_le {need:Nat→Int} {can:Nat→Bool} {x:Int} (h0:0≤x):∀ {m:Nat},(∀ d,d<m→need d-ct can d≤x)→lackT need can m≤x
  | 0,_=>h0
  | m+1,h=>by
    have:=lackT_le (need:=need) (can:=can) h0 (m:=m) fun d hd=>h d (by omega)
    have:=h m (by omega)
    simp only [lackT];omega
def Short (N M:Nat) (hands:Nat→Int) (may:Nat→Nat→Bool) (need:Nat→Nat→Int) (some:Nat→Bool):Prop :=
  sm (fun h=>if some h=true then hands h else 0) M<sm (fun s=>lackT (need s) (fun h=>may h s && !some h) M) N
def Feas (N M:Nat) (hands:Nat→Int) (may:Nat→Nat→Bool) (need:Nat→Nat→Int):Prop :=
  ∃ P:Nat→Nat→Bool,(∀ h s,P h s=true→may h s=true)∧(∀ h,h<M→ct (P h) N≤hands h)∧∀ s,s<N→∀ d,d<M→need s d≤ct (fun h=>P h s) d
theorem short_none {N M:Nat} {hands:Nat→Int} {may:Nat→Nat→Bool} {need:Nat→Nat→Int} {some:Nat→Bool} (hs:Short N M hands may need some):¬ Feas N M hands may need:=by
  rintro⟨P,h1,h2,h3⟩
  have key:sm (fun s=>lackT (need s) (fun h=>may h s && !some h) M) N≤sm (fun s=>ct (fun h=>some h && P h s) M) N:=sm_le fun s hsN=>by
    refine lackT_le (ct_nonneg _ _) fun d hd=>?_
    have a:=h3 s hsN d hd
    have b:ct (fun h=>P h s) d≤ct (fun h=>some h && P h s) d+ct (fun h=>may h s && !some h) d:=ct_cover fun h _ hp=>by
      have:=h1 h s hp
      cases hh:some h <;> simp [hp,this]
    have c:ct (fun h=>some h && P h s) d≤ct (fun h=>some h && P h s) M:=by
      rw [← ct_below (fun h=>some h && P h s) (show d≤M by omega)]
      exact ct_le fun i _ hi=>by simp only [Bool.and_eq_true] at hi ⊢;exact hi.2
    omega
  have key2:sm (fun s=>ct (fun h=>some h && P h s) M) N≤sm (fun h=>if some h=true then hands h else 0) M:=by
    unfold ct
    rw [sm_comm]
    refine sm_le fun h hh=>?_
    by_cases hs:some h=true
    · rw [if_pos hs]
      have:=h2 h hh
      refine Int.le_trans (Int.le_of_eq (sm_congr fun s _=>?_)) this
      simp [hs]
    · rw [if_neg hs]
      refine Int.le_of_eq ((sm_congr fun s _=>?_).trans (sm_zero N))
      simp [hs]
  simp only [Short] at hs
  omega
theorem stuck_short {N M:Nat} {hands left:Nat→Int} {may:Nat→Nat→Bool} {need:Nat→Nat→Int} {G:Nat→Nat→Option Nat} {A:Nat→Nat→Prop} {s0 b0:Nat}
    (hG:∀ h s u,G h s=some u→h<u∧u<M∧s<N∧may h s=true)
    (hl:∀ h,h<M→ct (fun s=>(G h s).isSome) N+left h=hands h)
    (hI:∀ h s u,G h s=some u→ct (fun h=>match G h s with|some v=>decide (v≤u)|none=>false) M≤need s u)
    (h0:ct (fun h=>match G h s0 with|some v=>decide (v≤b0)|none=>false) M<need s0 b0)
    (hm:∀ h u,G h s0=some u→u≤b0) (hs0:s0<N) (hb0:b0<M)
    (hA:∀ h s,A h s→h<b0∧s<N)
    (F1:∀ h,h<b0→may h s0=true→A h s0)
    (F2:∀ h s u,A h s→G h s=some u→∀ h',h'<u→may h' s=true→A h' s)
    (F3:∀ h s,A h s→G h s=none→left h=0∧∀ s',(G h s').isSome=true→A h s') :
    ∃ some:Nat→Bool,(∀ h,some h=true→h<b0)∧Short N M hands may need some:=by
  classical
  refine⟨fun h=>decide (∃ s,A h s∧G h s=none),?_,?_⟩
  · intro h hh
    obtain⟨s,h1,_⟩:=of_decide_eq_true hh
    exact (hA h s h1).1
  let sg:Nat→Bool:=fun h=>decide (∃ s,A h s∧G h s=none)
  have hsg:∀ h,sg h=true↔∃ s,A h s∧G h s=none:=fun h=>by simp [sg]
  show Short N M hands may need sg
  have each:∀ s,s<N→ct (fun h=>sg h && (G h s).isSome) M+(if s=s0 then 1 else 0)≤lackT (need s) (fun h=>may h s && !sg h) M:=fun s hs=>by
    have inA:∀ h,sg h=true→(G h s).isSome=true→A h s:=fun h h1 h2=>by
      obtain⟨s',h3,h4⟩:=(hsg h).1 h1
      exact (F3 h s' h3 h4).2 s h2
    have main:∀ d,d<M→(∀ h,h<d→may h s=true→A h s)→(∀ h u,A h s→G h s=some u→u≤d) →
        ct (fun h=>match G h s with|some v=>decide (v≤d)|none=>false) M+(if s=s0 then 1 else 0)≤need s d →
        ct (fun h=>sg h && (G h s).isSome) M+(if s=s0 then 1 else 0)≤lackT (need s) (fun h=>may h s && !sg h) M:=fun d hd c1 c2 c3=>by
      have a:=lackT_ge (need s) (fun h=>may h s && !sg h) hd
      have b:ct (fun h=>sg h && (G h s).isSome) M+ct (fun h=>decide (h<d) && (may h s && !sg h)) M≤ct (fun h=>match G h s with|some v=>decide (v≤d)|none=>false) M:=ct_split fun h _=>by
        refine⟨fun h1=>?_,fun h1=>?_,fun h1=>?_⟩
        · simp only [Bool.and_eq_true] at h1
          obtain⟨u,hu⟩:=Option.isSome_iff_exists.1 h1.2
          have:=c2 h u (inA h h1.1 h1.2) hu
          simp [hu,this]
        · simp only [Bool.and_eq_true,decide_eq_true_eq,Bool.not_eq_true'] at h1
          have h2:=c1 h h1.1 h1.2.1
          cases hg:G h s with
          | none=>exact absurd ((hsg h).2 ⟨s,h2,hg⟩) (by rw [h1.2.2];simp)
          | some u=>have:=c2 h u h2 hg;simp [this]
        · simp only [Bool.and_eq_true,Bool.not_eq_true'] at h1
          rw [h1.1.1] at h1;simp at h1
      rw [ct_below _ (Nat.le_of_lt hd)] at b
      omega
    by_cases h1:s=s0
    · subst h1
      exact main b0 hb0 F1 (fun h u _ hu=>hm h u hu) (by simp only [if_true];omega)
    · by_cases h2:∃ u,∃ h,A h s∧G h s=some u
      · obtain⟨u,hu⟩:=h2
        obtain⟨d,⟨h,hd1,hd2⟩,hdm⟩:=ex_max (p:=fun u=>∃ h,A h s∧G h s=some u) (m:=M) (fun v ⟨h,_,h3⟩=>(hG h s v h3).2.1) hu
        refine main d (hG h s d hd2).2.1 (F2 h s d hd1 hd2) (fun h' v h3 h4=>hdm v ⟨h',h3,h4⟩) ?_
        have:=hI h s d hd2
        rw [if_neg h1];omega
      · have:ct (fun h=>sg h && (G h s).isSome) M=0:=by
          unfold ct
          refine (sm_congr fun h _=>?_).trans (sm_zero M)
          refine if_neg fun h3=>?_
          simp only [Bool.and_eq_true] at h3
          obtain⟨u,hu⟩:=Option.isSome_iff_exists.1 h3.2
          exact h2 ⟨u,h,inA h h3.1 h3.2,hu⟩
        have h4:=lackT_nonneg (need s) (fun h=>may h s && !sg h) M
        rw [this,if_neg h1];omega
  have tot:=sm_le (n:=N) each
  rw [sm_add,sm_one,if_pos hs0] at tot
  have eq:sm (fun s=>ct (fun h=>sg h && (G h s).isSome) M) N=sm (fun h=>if sg h=true then hands h else 0) M:=by
    unfold ct
    rw [sm_comm]
    refine sm_congr fun h hh=>?_
    by_cases h1:sg h=true
    · rw [if_pos h1]
      obtain⟨s',h3,h4⟩:=(hsg h).1 h1
      have h5:=hl h hh
      rw [(F3 h s' h3 h4).1,Int.add_zero] at h5
      rw [← h5]
      exact sm_congr fun s _=>by simp [h1]
    · rw [if_neg h1]
      exact (sm_congr fun s _=>by simp [h1]).trans (sm_zero N)
  simp only [Short]
  omega
end Go.Hall
/- Hands that are given: what a search for a hand leaves. -/
namespace Go.Proofs
open Go.Abs
attribute [local simp] AOp.den AOpd.ev lk cellsOf rd_new rd_new0 rd_zero rd_succ wr_new wr_new0 wr_zero wr_succ splice fillA binA scal sliceCells List.length_append argsT AV.sc scL AObj.sc resV getAll AR.get AOp.slots opdSlots opdsSlots partSlots eqAt at_new0 at_new set_new0 set_new wrap64
set_option linter.unusedSimpArgs false
set_option linter.unusedVariables false
open Go.Hall
theorem ct_one {p q:Nat→Bool} {i:Nat} (h:∀ j,j≠i→q j=p j):∀ {n:Nat},i<n→ct q n=ct p n+(if q i=true then 1 else 0)-(if p i=true then 1 else 0)
  | 0,hi=>by omega
  | n+1,hi=>by
    by_cases hn:i=n
    · subst hn
      have:ct q i=ct p i:=ct_congr fun j hj=>h j (by omega)
      simp only [ct,sm] at this ⊢
      rw [this];omega
    · have ih:=ct_one h (n:=n) (by omega)
      have h2:=h n (fun hh=>hn hh.symm)
      simp only [ct,sm] at ih ⊢
      rw [ih,h2];omega
def cD (G:Nat→Nat→Option Nat) (s d:Nat):Int:=ct (fun h=>match G h s with|some v=>decide (v≤d)|none=>false) 8
def cH (G:Nat→Nat→Option Nat) (h:Nat):Int:=ct (fun s=>(G h s).isSome) 12
def inD (o:Option Nat) (d:Nat):Int:=match o with|some u=>if u≤d then 1 else 0|none=>0
def inH (o:Option Nat):Int:=if o.isSome=true then 1 else 0
theorem cD_put (G:Nat→Nat→Option Nat) {h:Nat} (hh:h<8) (s:Nat) (v:Option Nat) (s' d:Nat):cD (putG G h s v) s' d=cD G s' d+if s'=s then inD v d-inD (G h s) d else 0:=by
  by_cases hs:s'=s
  · subst hs
    rw [if_pos rfl]
    have:=ct_one (p:=fun h=>match G h s' with|some v=>decide (v≤d)|none=>false) (q:=fun k=>match putG G h s' v k s' with|some v=>decide (v≤d)|none=>false) (i:=h) (fun j hj=>by simp [putG,hj]) hh
    simp only [cD]
    rw [this]
    have e:putG G h s' v h s'=v:=by simp [putG]
    simp only [e]
    cases v <;> cases G h s' <;> simp [inD] <;> omega
  · rw [if_neg hs,Int.add_zero]
    exact ct_congr fun j _=>by simp [putG,hs]
theorem cH_put (G:Nat→Nat→Option Nat) (h:Nat) {s:Nat} (hs:s<12) (v:Option Nat) (h':Nat):cH (putG G h s v) h'=cH G h'+if h'=h then inH v-inH (G h s) else 0:=by
  by_cases hh:h'=h
  · subst hh
    rw [if_pos rfl]
    have:=ct_one (p:=fun s=>(G h' s).isSome) (q:=fun k=>(putG G h' s v h' k).isSome) (i:=s) (fun j hj=>by simp [putG,hj]) hs
    simp only [cH]
    rw [this]
    have e:putG G h' s v h' s=v:=by simp [putG]
    simp only [e,inH];omega
  · rw [if_neg hh,Int.add_zero]
    exact ct_congr fun j _=>by simp [putG,hh]
def subA (A A':Nat→Nat→Bool):Prop:=∀ h s,A h s=true→A' h s=true
theorem subA.rfl' (A:Nat→Nat→Bool):subA A A:=fun _ _ h=>h
theorem subA.trans {A B C:Nat→Nat→Bool} (h:subA A B) (k:subA B C):subA A C:=fun a b c=>k a b (h a b c)
theorem sub_put (A:Nat→Nat→Bool) (h s:Nat):subA A (putA A h s):=fun a b c=>by simp only [putA];split <;> simp [c]
theorem put_at (A:Nat→Nat→Bool) (h s:Nat):putA A h s h s=true:=by simp [putA]
def ua (A:Nat→Nat→Bool):Int:=sm (fun h=>ct (fun s=>!A h s) 12) 8
theorem ua_nonneg (A:Nat→Nat→Bool):0≤ua A:=sm_nonneg fun _ _=>ct_nonneg _ _
theorem ua_sub {A A':Nat→Nat→Bool} (h:subA A A'):ua A'≤ua A:=sm_le fun a _=>ct_le fun b _ hb=>by
  cases hA:A a b with
  | false=>rfl
  | true=>rw [h a b hA] at hb;simp at hb
theorem sm_one' {f g:Nat→Int} {i:Nat} (h:∀ j,j≠i→g j=f j):∀ {n:Nat},i<n→sm g n=sm f n+g i-f i
  | 0,hi=>by omega
  | n+1,hi=>by
    by_cases hn:i=n
    · subst hn
      have:sm g i=sm f i:=sm_congr fun j hj=>h j (by omega)
      simp only [sm,this];omega
    · have ih:=sm_one' h (n:=n) (by omega)
      have h2:=h n (fun hh=>hn hh.symm)
      simp only [sm,ih,h2];omega
theorem ua_put {A:Nat→Nat→Bool} {h s:Nat} (hh:h<8) (hs:s<12) (ha:A h s=false):ua (putA A h s)=ua A-1:=by
  have h1:=sm_one' (f:=fun h=>ct (fun s=>!A h s) 12) (g:=fun k=>ct (fun j=>!putA A h s k j) 12) (i:=h) (fun j hj=>ct_congr fun k _=>by simp [putA,hj]) hh
  have h2:=ct_one (p:=fun s=>!A h s) (q:=fun j=>!putA A h s h j) (i:=s) (fun j hj=>by simp [putA,hj]) hs
  rw [put_at,ha] at h2
  simp only [ua]
  simp at h2
  omega
def VG (B N:Nat) (S:Nat→Nat→Option Bool) (G:Nat→Nat→Option Nat):Prop:=∀ h s u,G h s=some u→h<u∧u≤B∧s<N∧S h s=none
def Pend (B:Nat) (S:Nat→Nat→Option Bool) (G:Nat→Nat→Option Nat) (Lf:Nat→Int) (A A':Nat→Nat→Bool):Prop :=
  ∀ h s,A h s=false→A' h s=true→(h<B∧s<12∧S h s=none)∧(∀ u,G h s=some u→∀ h',h'<u→S h' s=none→A' h' s=true)∧(G h s=none→Lf h=0∧∀ s',(G h s').isSome=true→A' h s'=true)
structure Won (B N:Nat) (S:Nat→Nat→Option Bool) (s b:Nat) (A A':Nat→Nat→Bool) (G G':Nat→Nat→Option Nat) (Lf Lf':Nat→Int):Prop where
  sub:subA A A'
  keep:∀ h s',A h s'=true→G' h s'=G h s'
  cnt:∀ s' d,cD G' s' d=cD G s' d+if s'=s∧b≤d then 1 else 0
  hr:∀ h,h<8→cH G' h+Lf' h=cH G h+Lf h
  nn:∀ h,h<8→0≤Lf' h
  vg:VG B N S G'
structure Lost (B:Nat) (S:Nat→Nat→Option Bool) (s b:Nat) (A A':Nat→Nat→Bool) (G:Nat→Nat→Option Nat) (Lf:Nat→Int):Prop where
  sub:subA A A'
  clo:∀ h,h<b→S h s=none→A' h s=true
  pend:Pend B S G Lf A A'
theorem Pend.trans {D:Nat} {S:Nat→Nat→Option Bool} {G:Nat→Nat→Option Nat} {Lf:Nat→Int} {A B C:Nat→Nat→Bool} (h:Pend D S G Lf A B) (k:Pend D S G Lf B C) (hs:subA B C):Pend D S G Lf A C:=fun a b h1 h2=>by
  cases hb:B a b with
  | true =>
    obtain⟨p0,p1,p2⟩:=h a b h1 hb
    exact⟨p0,fun u hu h' hl hn=>hs _ _ (p1 u hu h' hl hn),fun hn=>⟨(p2 hn).1,fun s' hs'=>hs _ _ ((p2 hn).2 s' hs')⟩⟩
  | false=>exact k a b hb h2
theorem Pend.rfl' (D:Nat) (S:Nat→Nat→Option Bool) (G:Nat→Nat→Option Nat) (Lf:Nat→Int) (A:Nat→Nat→Bool)   : Pend D S G Lf A A:=fun a b h1 h2=>by rw [h1] at h2;cases h2
section
variable {B N:Nat} {S:Nat→Nat→Option Bool} {s b h:Nat} {A A1:Nat→Nat→Bool} {G:Nat→Nat→Option Nat} {Lf:Nat→Int}
theorem won_free (hN:N≤12) (hs:s<N) (hB:B≤8) (hh:h<b) (hb:b≤B) (hS:S h s=none) (hA:subA A A1) (h1:A1 h s=false) (hg:G h s=none) (hl:0<Lf h) (hv:VG B N S G) (hn:∀ h,h<8→0≤Lf h) :
    Won B N S s b A (putA A1 h s) G (putG G h s (some b)) Lf (fun k=>if k=h then Lf h-1 else Lf k):=by
  have nA:A h s=false:=by cases hh:A h s with|false=>rfl|true=>rw [hA _ _ hh] at h1;cases h1
  refine⟨hA.trans (sub_put _ _ _),fun k s' hk=>?_,fun s' d=>?_,fun k hk=>?_,fun k hk=>?_,fun k s' u hu=>?_⟩
  · simp only [putG]
    rw [if_neg]
    rintro⟨rfl,rfl⟩
    rw [nA] at hk;cases hk
  · rw [cD_put G (by omega),hg]
    by_cases hs':s'=s
    · subst hs';simp [inD]
    · simp [hs']
  · rw [cH_put G h (by omega),hg]
    by_cases hk2:k=h
    · subst hk2;simp [inH];omega
    · simp [hk2]
  · by_cases hk2:k=h
    · simp [hk2];omega
    · simp [hk2];exact hn k hk
  · simp only [putG] at hu
    split at hu
    · rename_i h2;obtain⟨rfl,rfl⟩:=h2;cases hu;exact⟨hh,hb,hs,hS⟩
    · exact hv k s' u hu
theorem won_swap {r u:Nat} {A5 Aj:Nat→Nat→Bool} {G1:Nat→Nat→Option Nat} {L1:Nat→Int} (hN:N≤12) (hs:s<N) (hr:r<12) (hB:B≤8) (hh:h<b) (hb:b≤B) (hS:S h s=none) (hA:subA A A1) (h1:A1 h s=false)
    (hj:subA (putA A1 h s) Aj) (hrj:r≠s→Aj h r=false) (hg:G h r=some u) (hg2:r≠s→G h s=none) (hw:Won B N S r u (putA Aj h r) A5 G G1 Lf L1) :
    Won B N S s b A A5 G (putG (putG G1 h r none) h s (some b)) Lf L1:=by
  have nA:A h s=false:=by cases hh:A h s with|false=>rfl|true=>rw [hA _ _ hh] at h1;cases h1
  have sA:subA A Aj:=hA.trans ((sub_put _ _ _).trans hj)
  have nR:A h r=false:=by
    by_cases hrs:r=s
    · rw [hrs];exact nA
    · cases hh:A h r with
      | false=>rfl
      | true=>rw [sA _ _ hh] at hrj;cases hrj hrs
  have k1:G1 h r=some u:=by rw [hw.keep h r (put_at _ _ _)];exact hg
  have k2:r≠s→G1 h s=none:=fun hrs=>by
    rw [hw.keep h s (sub_put _ _ _ _ _ (hj _ _ (put_at _ _ _)))];exact hg2 hrs
  have e1:putG G1 h r none h s=none:=by
    by_cases hrs:r=s
    · simp [putG,hrs]
    · have:¬ s=r:=fun hh=>hrs hh.symm
      simp [putG,this,k2 hrs]
  refine⟨sA.trans ((sub_put _ _ _).trans hw.sub),fun k s' hk=>?_,fun s' d=>?_,fun k hk=>?_,hw.nn,fun k s' v hv=>?_⟩
  · simp only [putG]
    rw [if_neg,if_neg]
    · exact hw.keep k s' (sub_put _ _ _ _ _ (sA _ _ hk))
    · rintro⟨rfl,rfl⟩;rw [nR] at hk;cases hk
    · rintro⟨rfl,rfl⟩;rw [nA] at hk;cases hk
  · rw [cD_put _ (by omega),cD_put G1 (by omega),hw.cnt s' d,e1,k1]
    by_cases c1:s'=r <;> by_cases c2:s'=s <;> by_cases c3:u≤d <;> by_cases c4:b≤d <;> simp [c1,c2,c3,c4,inD] <;> (try omega) <;> simp_all
  · rw [cH_put _ h (by omega),cH_put G1 h hr,e1,k1]
    have:=hw.hr k hk
    by_cases c1:k=h
    · simp [c1,inH] at this ⊢;omega
    · simp [c1];exact this
  · simp only [putG] at hv
    split at hv
    · rename_i h2;obtain⟨rfl,rfl⟩:=h2;cases hv;exact⟨hh,hb,hs,hS⟩
    · split at hv
      · cases hv
      · exact hw.vg k s' v hv
end
theorem mS_len2 (S:Nat→Nat→Option Bool) (h s:Nat):AV.tuple [(mS S ((h:Int),(s:Int))).getD (.bool false),.bool (mS S ((h:Int),(s:Int))).isSome]=.tuple [.bool ((S h s).getD false),.bool (S h s).isSome]:=by
  rw [mS_at]
  cases S h s <;> rfl
theorem mA_get (A:Nat→Nat→Bool) (h s:Nat):(mA A ((h:Int),(s:Int))).getD (.bool false)=.bool (A h s):=by
  rw [mA_at]
  cases A h s <;> rfl
theorem mG_get (G:Nat→Nat→Option Nat) (h s:Nat) {u:Nat} (hu:G h s=some u):(mG G ((h:Int),(s:Int))).getD (.int .i64 0)=.int .i64 u:=by
  rw [mG_at,hu];rfl
theorem e_putM {P:Program} {l:List AO} {K:St→Prop} {t:List (Nat × AV)} {h:Heap} {m i y:AOpd} {id:Nat} {k:Int × Int} {v:AV} {o:AObj} {f:Int × Int→Option AV} (hm:Red (m.ev t) (.map id)) (hi:Red (i.ev t) (pk k)) (hx:Red (y.ev t) v) (hh:h[id]?=some o) (hp:PMap o f)
    (hn:∀ o',PMap o' (updM f k v)→EOps P l K t (h.set id o')):EOps P (⟨none,.mapPut (.row [.int,.int]) m i y,none⟩ :: l) K t h:=by
  obtain⟨o',p1,p2⟩:=den_putM (ev:=AOpd.ev t) hm hi hx hh hp
  exact e_do rfl p2 Rz trivial (hn o' p1)
theorem e_delM {P:Program} {l:List AO} {K:St→Prop} {t:List (Nat × AV)} {h:Heap} {m i:AOpd} {id:Nat} {k:Int × Int} {o:AObj} {f:Int × Int→Option AV} (hm:Red (m.ev t) (.map id)) (hi:Red (i.ev t) (pk k)) (hh:h[id]?=some o) (hp:PMap o f) (hin:(f k).isSome=true)
    (hn:∀ o',PMap o' (delM f k)→EOps P l K t (h.set id o')):EOps P (⟨none,.mapDel (.row [.int,.int]) m i,none⟩ :: l) K t h:=by
  obtain⟨o',p1,p2⟩:=den_delM (ev:=AOpd.ev t) hm hi hh hp hin
  exact e_do rfl p2 Rz trivial (hn o' p1)
theorem at_old {H:Heap} (G:Heap) {i:Nat} {o:AObj} (h:H[i]?=some o):(H++G)[i]?=some o:=by
  rw [List.getElem?_append_left (List.getElem?_eq_some_iff.1 h).1];exact h
theorem FS.cut {x:FI} {H X:Heap} {A:Nat→Nat→Bool} {G:Nat→Nat→Option Nat} {Lf:Nat→Int} {S:Nat→Nat→Option Bool} (h:FS x (H++X) A G Lf S) (l:x.rid<H.length∧x.acid<H.length∧x.gcid<H.length∧x.fcid<H.length∧x.lid<H.length∧x.aid<H.length∧x.gid<H.length∧x.sid<H.length):FS x H A G Lf S:=by
  obtain⟨l1,l2,l3,l4,l5,l6,l7,l8⟩:=l
  obtain⟨r1,r2,r3,r4,r5,⟨o1,a1,a2⟩,⟨o2,b1,b2⟩,⟨o3,c1,c2⟩,n1,n2⟩:=h
  exact⟨by rw [← rd_old X l1];exact r1,by rw [← rd_old X l2];exact r2,by rw [← rd_old X l3];exact r3,by rw [← rd_old X l4];exact r4,by rw [← List.getElem?_append_left l5];exact r5,
    ⟨o1,by rw [← List.getElem?_append_left l6];exact a1,a2⟩,⟨o2,by rw [← List.getElem?_append_left l7];exact b1,b2⟩,⟨o3,by rw [← List.getElem?_append_left l8];exact c1,c2⟩,n1,n2⟩
theorem rd_tail {H3 H4 Y:Heap} (Z:Heap) {id off n:Nat} {vs:List AV} (he:H4.length=H3.length) (hi:H3.length≤id) (h:rd (H3++Y) id off n=some vs):rd (H4++(Y++Z)) id off n=some vs:=by
  have hlt:=rd_lt h
  rw [List.length_append] at hlt
  obtain⟨k,rfl⟩:∃ k,id=H3.length+k:=⟨id-H3.length,by omega⟩
  rw [rd_new] at h
  rw [← he,rd_new,rd_old _ (by omega)];exact h
theorem RAt.row2 {h:Heap} {v:AV} {l:List (Int × Int)} (hl:RAt h 2 v (pv l) l.length) {i:Nat} (hi:i<l.length):∃ id off ex,v=.slice id off l.length 2 ex∧rd h id (off+i * 2) 2=some [.int .i64 l[i].1,.int .i64 l[i].2]:=by
  obtain⟨id,off,ex,h1,h2,_⟩:=PAt.get2 hl hi
  exact⟨id,off,ex,h1,h2⟩
def findR (x:FI) (B N:Nat) (S:Nat→Nat→Option Bool) (s b:Nat) (A:Nat→Nat→Bool) (G:Nat→Nat→Option Nat) (Lf:Nat→Int) (H:Heap) (v:AV) (h':Heap):Prop :=
  Only x H h'∧∃ A',(∃ G' L',v=.bool true∧FS x h' A' G' L' S∧Won B N S s b A A' G G' Lf L')∨(v=.bool false∧FS x h' A' G Lf S∧Lost B S s b A A' G Lf)
set_option maxHeartbeats 4000000 in
theorem c_find (x:FI) (B N:Nat) (hB:B≤8) (hN:N≤12) (S:Nat→Nat→Option Bool):∀ (n:Nat) (H:Heap) (A:Nat→Nat→Bool) (G:Nat→Nat→Option Nat) (Lf:Nat→Int) (s b:Nat),FS x H A G Lf S→ua A≤n→VG B N S G→(∀ h,h<8→0≤Lf h∧cH G h+Lf h≤100)→b≤B→s<N →
    ACalls Try.prog F.ice_roster_giver_1 [.int .i64 s,.int .i64 b,.ptr x.rid 0,.ptr x.acid 0,.ptr x.gcid 0,.ptr x.lid 0,.ptr x.fcid 0] H (findR x B N S s b A G Lf H):=by
  intro n
  induction n using Nat.strongRecOn with
  | ind n ih =>
  intro H A G Lf s b hF hn hv hl hb hsN
  have hs:s<12:=by omega
  refine acalls_of ok_ice_roster_giver_1 rfl fun hcl=>?_
  unfold ac_ice_roster_giver_1 zo
  simp only [argsT,Nat.zero_add,Nat.reduceAdd]
  have hrl:=rd_lt hF.rr
  have hal:=rd_lt hF.ac
  have hgl:=rd_lt hF.gc
  have hfl:=rd_lt hF.fc
  have hll:=hF.llt
  repeat (first|(with_reducible first|apply X1|apply X2|apply X6|apply X8)|((with_reducible apply e_end);(simp;exact Rz))|((with_reducible apply O1);rfl;(simp (disch:=omega);exact Rz);exact Rz;(focus (first|(simp;done)|omega|(simp;omega)))))
  refine e_loop (ι:={ y:Nat × Heap × Heap × (Nat→Nat→Bool) // y.1≤b∧Only x H y.2.1∧FS x y.2.1 y.2.2.2 G Lf S∧subA A y.2.2.2∧(∀ h,h<y.1→S h s=none→y.2.2.2 h s=true)∧Pend B S G Lf A y.2.2.2 })
    (fun y=>[(0,.int .i64 s),(1,.int .i64 b),(2,.ptr x.rid 0),(3,.ptr x.acid 0),(4,.ptr x.gcid 0),(5,.ptr x.lid 0),(6,.ptr x.fcid 0),(19,.int .i64 b),(20,.int .i64 y.1.1)])
    (fun y=>y.1.2.1++y.1.2.2.1) (fun y=>b-y.1.1) ⟨(0,H,[],A),by simp,Only.rfl' _ _,hF,subA.rfl' _,fun h hh=>by simp at hh,Pend.rfl' _ _ _ _ _⟩ ?_ ?_
  · exact .inl (by simp)
  · rintro⟨⟨h,H2,X,A1⟩,hh,hO,hF2,hsub,hclo,hpe⟩
    dsimp only at hh hO hF2 hsub hclo hpe ⊢
    have e2:=hO.1
    have l1:x.rid<H2.length:=by omega
    have l2:x.acid<H2.length:=by omega
    have l3:x.gcid<H2.length:=by omega
    have l4:x.fcid<H2.length:=by omega
    have l5:x.lid<H2.length:=by omega
    have f1:=hF2.rr
    have f2:=hF2.ac
    have f3:=hF2.gc
    have f4:=hF2.fc
    by_cases hlt:h<b
    · have hlt2:(h:Int)<b:=by omega
      obtain⟨so,so1,so2⟩:=(hF2.app (X++[AObj.cells [.int .i64 h,.int .i64 s] true])).sm
      obtain⟨ao,ao1,ao2⟩:=hF2.am
      repeat (first|(with_reducible first|apply X1|apply X2|apply X5|apply X6|apply X8)|((with_reducible apply e_end);(simp;exact Rz))|((first|((with_reducible apply O1);rfl)|((with_reducible apply O2);rfl));(simp (disch:=omega) [hlt2,rd_old _ l1,f1];exact Rz);exact Rz;(focus (first|(simp;done)|omega|(simp;omega))))|((with_reducible apply Z9);(simp (disch:=omega) [hlt2,rd_old _ l1,f1];exact Rz)))
      (with_reducible apply e_op);rfl;exact den_getM2 (k:=((h:Int),(s:Int))) (f:=mS S) rfl rfl so1 so2;exact Rz;trivial
      rw [mS_len2]
      cases hS:S h s with
      | some b' =>
        repeat (first|(with_reducible first|apply X1|apply X2|apply X4|apply X8|apply Y1|apply Y4)|((with_reducible apply e_end);(simp;exact Rz))|((with_reducible apply O1);rfl;(simp (disch:=omega);exact Rz);exact Rz;(focus (first|(simp;done)|omega|(simp;omega))))|((with_reducible apply Z9);(simp (disch:=omega);exact Rz))|((with_reducible apply Z2);(simp (disch:=omega);exact Rz)))
        refine q_again ⟨(h+1,H2,X++[.cells [.int .i64 h,.int .i64 s] true],A1),by dsimp only;omega,hO,hF2,hsub,fun k hk hn=>?_,hpe⟩ (by dsimp only;omega) (.inl (by simp))
        by_cases hk2:k=h
        · subst hk2;rw [hS] at hn;cases hn
        · exact hclo k (by dsimp only at hk;omega) hn
      | none =>
        repeat (first|(with_reducible first|apply X1|apply X2|apply X8)|((with_reducible apply e_end);(simp;exact Rz))|((with_reducible apply O1);rfl;(simp (disch:=omega) [rd_old _ l2,f2];exact Rz);exact Rz;(focus (first|(simp;done)|omega|(simp;omega))))|((with_reducible apply Z7);(simp (disch:=omega) [rd_old _ l2,f2];exact Rz)))
        (with_reducible apply e_op);rfl;exact den_getM (k:=((h:Int),(s:Int))) (f:=mA A1) rfl rfl (at_old _ ao1) ao2;exact Rz;trivial
        rw [mA_get]
        cases hA1:A1 h s with
        | true =>
          repeat (first|(with_reducible first|apply X2|apply X4|apply X8|apply Y1|apply Y4)|((with_reducible apply e_end);(simp;exact Rz))|((with_reducible apply O1);rfl;(simp (disch:=omega);exact Rz);exact Rz;(focus (first|(simp;done)|omega|(simp;omega))))|((with_reducible apply Z9);(simp (disch:=omega);exact Rz)))
          refine q_again ⟨(h+1,H2,X++[.cells [.int .i64 h,.int .i64 s] true],A1),by dsimp only;omega,hO,hF2,hsub,fun k hk hn=>?_,hpe⟩ (by dsimp only;omega) (.inl (by simp))
          by_cases hk2:k=h
          · subst hk2;exact hA1
          · exact hclo k (by dsimp only at hk;omega) hn
        | false =>
          repeat (first|(with_reducible first|apply X1|apply X2|apply X5|apply X8)|((with_reducible apply e_end);(simp;exact Rz))|((with_reducible apply O1);rfl;(simp (disch:=omega) [rd_old _ l2,f2];exact Rz);exact Rz;(focus (first|(simp;done)|omega|(simp;omega))))|((with_reducible apply W3);(simp (disch:=omega) [rd_old _ l2,f2];exact Rz)))
          refine e_putM (k:=((h:Int),(s:Int))) (v:=.bool true) (f:=mA A1) (by simp;exact Rz) (by simp;exact Rz) (by simp;exact Rz) (at_old _ ao1) ao2 ?_
          intro o' ho'
          rw [upd_mA] at ho'
          rw [set_old hF2.alt]
          have hF3:=hF2.setA ho'
          have hO3:=hO.trans (Only.set o' (.inl rfl))
          have hup:=ua_put (A:=A1) (h:=h) (s:=s) (by omega) hs hA1
          have hus:=ua_sub hsub
          have hA2n:ua (putA A1 h s)≤((n-1:Nat):Int):=by have:=ua_nonneg (putA A1 h s);omega
          have hn1:n-1<n:=by have:=ua_nonneg (putA A1 h s);omega
          have hl3:(H2.set x.aid o').length=H2.length:=by simp
          rw [← hl3]
          clear ho' ao2 ao1 so2 so1 hF2 hO f1 f2 f3 f4
          generalize H2.set x.aid o'=H3 at *
          have f1:=hF3.rr
          have f2:=hF3.ac
          have f3:=hF3.gc
          have f4:=hF3.fc
          have l1:x.rid<H3.length:=by omega
          have l2:x.acid<H3.length:=by omega
          have l3:x.gcid<H3.length:=by omega
          have l4:x.fcid<H3.length:=by omega
          have l5:x.lid<H3.length:=by omega
          obtain⟨go,go1,go2⟩:=hF3.gm
          have rl:=rd_cell hF3.lf (show h<8 by omega)
          have h8:h<8:=by omega
          have h82:(h:Int)<8:=by omega
          have hlh:=hl h h8
          have hch:0≤cH G h:=Go.Hall.ct_nonneg _ _
          repeat (first|(with_reducible first|apply X1|apply X2|apply X8)|((with_reducible apply e_end);(simp;exact Rz))|((with_reducible apply O1);rfl;(simp (disch:=omega) [rd_old _ l3,f3];exact Rz);exact Rz;(focus (first|(simp;done)|omega|(simp;omega)))))
          (with_reducible apply e_op);rfl;exact den_getM2 (k:=((h:Int),(s:Int))) (f:=mG G) rfl rfl (at_old _ go1) go2;exact Rz;trivial
          rw [mG_len2]
          by_cases hfree:G h s=none∧0<Lf h
          · obtain⟨hg,hpos⟩:=hfree
            rw [hg]
            dsimp only
            have hw:=wr_set (g:=fun k=>if k=h then Lf h-1 else Lf k) (x:=Lf h-1) (at_old (X++[AObj.cells [.int .i64 h,.int .i64 s] true]) hF3.lf) h8 (fun j=>rfl)
            rw [set_old l5] at hw
            repeat (first|(with_reducible first|apply X1|apply X2|apply X8)|((with_reducible apply e_end);(simp;exact Rz))|((first|((with_reducible apply O1);rfl)|((with_reducible apply O2);rfl));(simp (disch:=omega) [h8,h82,rd_old _ l5,rl,hpos,hw];exact Rz);exact Rz;(focus (first|(simp;done)|omega|(simp;omega))))|((with_reducible first|apply Z7|apply Z9);(simp (disch:=omega) [h8,h82,rd_old _ l5,rl,hpos,hw];exact Rz)))
            have hF4:=hF3.setL (fun k=>if k=h then Lf h-1 else Lf k)
            have hO4:=hO3.trans (Only.set (x:=x) (j:=x.lid) (.cells (avL (fun k=>if k=h then Lf h-1 else Lf k) 8) true) (.inr (.inr rfl)))
            have hl4:(H3.set x.lid (.cells (avL (fun k=>if k=h then Lf h-1 else Lf k) 8) true)).length=H3.length:=by simp
            rw [← hl4]
            clear hw go1 go2 f1 f2 f3 f4 rl
            generalize H3.set x.lid (AObj.cells (avL (fun k=>if k=h then Lf h-1 else Lf k) 8) true)=H4 at *
            obtain⟨go,go1,go2⟩:=hF4.gm
            have f3:=hF4.gc
            repeat ((with_reducible apply O1);rfl;(simp (disch:=omega) [rd_old _ (rd_lt f3),f3];exact Rz);exact Rz;(focus (first|(simp;done)|omega|(simp;omega))))
            refine e_putM (k:=((h:Int),(s:Int))) (v:=.int .i64 b) (f:=mG G) (by simp;exact Rz) (by simp;exact Rz) (by simp;exact Rz) (at_old _ go1) go2 ?_
            intro o2 ho2
            rw [upd_mG] at ho2
            rw [set_old hF4.glt]
            have hF5:=hF4.setG ho2
            have hO5:=hO4.trans (Only.set o2 (.inr (.inl rfl)))
            repeat (first|(with_reducible first|apply X1|apply X2|apply X3|apply X8|apply X9|apply Y3|apply Y5)|((with_reducible apply e_end);(simp;exact Rz))|((with_reducible apply O1);rfl;(simp (disch:=omega);exact Rz);exact Rz;(focus (first|(simp;done)|omega|(simp;omega)))))
            exact q_post (.inr rfl) (by simp;exact Rz) (le_chg2 (hO5.chg hF5) (le_drop (t':=[(0,.bool true)]) (by simp [lk]))) ⟨hO5,_,.inl ⟨_,_,rfl,hF5,won_free hN hsN hB hlt hb hS hsub hA1 hg hpos hv fun h hh=>(hl h hh).1⟩⟩
          · repeat (first|(with_reducible first|apply X1|apply X2|apply X8)|((with_reducible apply e_end);(simp;exact Rz))|((with_reducible apply O1);rfl;(simp (disch:=omega);exact Rz);exact Rz;(focus (first|(simp;done)|omega|(simp;omega)))))
            refine e_cut (fun t' h'=>t'=[(0,.int .i64 s),(1,.int .i64 b),(2,.ptr x.rid 0),(3,.ptr x.acid 0),(4,.ptr x.gcid 0),(5,.ptr x.lid 0),(6,.ptr x.fcid 0),(10,.int .i64 h),(11,.ptr (H3.length+X.length) 0),(19,.int .i64 b),(20,.int .i64 h),(54,.bool false)]∧h'=H3++(X++[.cells [.int .i64 h,.int .i64 s] true])) ?_ ?_
            · cases hg:(G h s).isNone with
              | false =>
                repeat (first|((with_reducible apply e_end);(simp;exact Rz))|((with_reducible apply O1);rfl;(simp (disch:=omega) [hg];exact Rz);exact Rz;(focus (first|(simp;done)|omega|(simp;omega))))|((with_reducible apply Z1);(simp (disch:=omega) [hg];exact Rz)))
                exact q_keep ⟨rfl,rfl⟩
              | true =>
                have hz:¬ 0<Lf h:=fun hp=>hfree ⟨Option.isNone_iff_eq_none.1 hg,hp⟩
                repeat (first|((with_reducible apply e_end);(simp;exact Rz))|((with_reducible apply O1);rfl;(simp (disch:=omega) [h8,h82,rd_old _ l5,rl,hz,hg];exact Rz);exact Rz;(focus (first|(simp;done)|omega|(simp;omega))))|((with_reducible apply Z7);(simp (disch:=omega) [h8,h82,rd_old _ l5,rl,hz,hg];exact Rz)))
                exact q_keep ⟨rfl,rfl⟩
            rintro _ _ ⟨rfl,rfl⟩
            have hstuck:G h s=none→Lf h=0:=fun hg=>by
              have:¬ 0<Lf h:=fun hp=>hfree ⟨hg,hp⟩
              omega
            repeat (first|(with_reducible first|apply X1|apply X2|apply X5|apply X8)|((with_reducible apply O1);rfl;(simp (disch:=omega) [rd_old _ l3,f3];exact Rz);exact Rz;(focus (first|(simp;done)|omega|(simp;omega))))|((with_reducible apply W3);(simp (disch:=omega) [rd_old _ l3,f3];exact Rz)))
            (with_reducible apply e_call);(simp;exact Rz);exact c_rivals _ x.gid h s go G (at_old _ go1) go2 (by omega) (by omega) (fun k q hq=>by obtain⟨u,hu⟩:=Option.isSome_iff_exists.1 hq;have:=(hv k q u hu).2.2.1;omega) (fun k q u hu=>by have:=(hv k q u hu).2.1;omega)
            rintro lv _ ⟨V2,rfl,hR,hRi⟩
            have hRm:∀ r∈rvL G h s,∃ q:Nat,r=((h:Int),(q:Int))∧q<12∧(∃ u,G h q=some u)∧(q≠s→G h s=none):=fun r hr=>by
              simp only [rvL] at hr
              split at hr
              · rename_i hg
                simp only [List.mem_singleton] at hr
                exact⟨s,hr,hs,Option.isSome_iff_exists.1 hg,fun hh=>absurd rfl hh⟩
              · rename_i hg
                obtain⟨q,h1,h2,h3⟩:=rvF_mem.1 hr
                exact⟨q,h3,h1,Option.isSome_iff_exists.1 h2,fun _=>by cases hh:G h s with|none=>rfl|some u=>rw [hh] at hg;simp at hg⟩
            have hRc1:∀ u,G h s=some u→((h:Int),(s:Int))∈rvL G h s:=fun u hg=>by simp [rvL,hg]
            have hRc2:G h s=none→∀ q,(G h q).isSome=true→((h:Int),(q:Int))∈rvL G h s:=fun hg q hq=>by
              have hq12:q<12:=by obtain⟨u,hu⟩:=Option.isSome_iff_exists.1 hq;have:=(hv h q u hu).2.2.1;omega
              simp only [rvL,hg,Option.isSome_none,Bool.false_eq_true,if_false]
              exact rvF_mem.2 ⟨q,hq12,hq,rfl⟩
            have hRl:(rvL G h s).length≤12:=by
              simp only [rvL]
              split
              · simp
              · exact rvF_len _ _ _
            generalize rvL G h s=R at *
            have hlsc:=hR.sc (Nat.le_refl _)
            have hH3:H3.length=H.length:=hO3.1
            have hpr:rd (H3++(X++[AObj.cells [.int .i64 h,.int .i64 s] true]++V2)) (H3.length+X.length) 0 2=some [.int .i64 h,.int .i64 s]:=by
              rw [rd_new];simp [rd_app]
            simp only [List.append_assoc] at hR hlsc hpr ⊢
            generalize hY:X++([AObj.cells [.int .i64 h,.int .i64 s] true]++V2)=Y at *
            have hYl:X.length<Y.length:=by rw [← hY];simp
            (with_reducible apply e_op);rfl;exact RAt.len hR _ (by simp);exact Rz;trivial
            repeat (first|(with_reducible first|apply X6|apply X8)|((with_reducible apply e_end);(simp;exact Rz))|((with_reducible apply O1);rfl;(simp (disch:=omega);exact Rz);exact Rz;(focus (first|(simp;done)|omega|(simp;omega)))))
            refine e_loop (ι:={ z:Nat × Heap × Heap × (Nat→Nat→Bool) // z.1≤R.length∧Only x H z.2.1∧FS x z.2.1 z.2.2.2 G Lf S∧subA (putA A1 h s) z.2.2.2∧Pend B S G Lf (putA A1 h s) z.2.2.2 ∧
                ∀ r∈R.take z.1,∀ q:Nat,r=((h:Int),(q:Int))→z.2.2.2 h q=true∧(q=s→∀ u,G h s=some u→∀ h',h'<u→S h' s=none→z.2.2.2 h' s=true) })
              (fun z=>[(0,.int .i64 s),(1,.int .i64 b),(2,.ptr x.rid 0),(3,.ptr x.acid 0),(4,.ptr x.gcid 0),(5,.ptr x.lid 0),(6,.ptr x.fcid 0),(11,.ptr (H3.length+X.length) 0),(19,.int .i64 b),(20,.int .i64 h),(65,lv),(66,.int .i64 R.length),(67,.int .i64 z.1.1)])
              (fun z=>z.1.2.1++(Y++z.1.2.2.1)) (fun z=>R.length-z.1.1) ⟨(0,H3,[],putA A1 h s),by simp,hO3,hF3,subA.rfl' _,Pend.rfl' _ _ _ _ _,fun r hr=>by simp at hr⟩ ?_ ?_
            · exact .inl (by simp)
            · clear f1 f2 f3 f4 go1 go2 rl
              rintro⟨⟨j,H4,Z,Aj⟩,hj,hO4,hF4,hsj,hpj,haj⟩
              dsimp only at hj hO4 hF4 hsj hpj haj ⊢
              have hH4:H4.length=H3.length:=by rw [hO4.1,hH3]
              have f1:=hF4.rr
              have f2:=hF4.ac
              have f3:=hF4.gc
              have f4:=hF4.fc
              have l1:=rd_lt f1
              have l2:=rd_lt f2
              have l3:=rd_lt f3
              have l4:=rd_lt f4
              have l5:=hF4.llt
              have hpr4:=fun Z=>rd_tail Z hH4 (Nat.le_add_right _ _) hpr
              by_cases hjl:j<R.length
              · have hjl2:(j:Int)<R.length:=by omega
                obtain⟨lid,loff,lex,rfl,hrow⟩:=RAt.row2 hR hjl
                have hli:=hRi lid rfl
                simp only [List.length_append] at hli
                have hrow4:=fun Z=>rd_tail Z hH4 (by omega) hrow
                have hlidl:=rd_lt hrow
                rw [List.length_append] at hlidl
                obtain⟨q,hq,hq12,⟨u,hu⟩,hqs⟩:=hRm _ (List.getElem_mem hjl)
                rw [hq] at hrow4
                obtain⟨ao,ao1,ao2⟩:=hF4.am
                dsimp only at hrow4
                repeat (first|(with_reducible first|apply X1|apply X2|apply X5|apply X6|apply X8)|((with_reducible apply e_end);(simp;exact Rz))|((first|((with_reducible apply O1);rfl)|((with_reducible apply O2);rfl));(simp (disch:=omega) [hjl2,hrow4];exact Rz);exact Rz;(focus (first|(simp;done)|omega|(simp;omega))))|((with_reducible apply Z9);(simp (disch:=omega) [hjl2,hrow4];exact Rz)))
                have tk:R.take (j+1)=R.take j++[((h:Int),(q:Int))]:=by rw [← hq];simp
                by_cases hskip:q≠s∧Aj h q=true
                · have c1:¬ (q:Int)=(s:Int):=by omega
                  repeat (first|((with_reducible apply O1);rfl;(simp (disch:=omega) [hpr4,c1,rd_old _ l2,f2];exact Rz);exact Rz;(focus (first|(simp;done)|omega|(simp;omega))))|((with_reducible apply Z7);(simp (disch:=omega) [hpr4,c1,rd_old _ l2,f2];exact Rz)))
                  (with_reducible apply e_op);rfl;exact den_getM (k:=((h:Int),(q:Int))) (f:=mA Aj) rfl rfl (at_old _ ao1) ao2;exact Rz;trivial
                  rw [mA_get,hskip.2]
                  repeat (first|(with_reducible first|apply X2|apply X4|apply X8|apply Y1|apply Y4)|((with_reducible apply e_end);(simp;exact Rz))|((with_reducible apply O1);rfl;(simp (disch:=omega);exact Rz);exact Rz;(focus (first|(simp;done)|omega|(simp;omega))))|((with_reducible apply Z9);(simp (disch:=omega);exact Rz)))
                  refine q_again ⟨(j+1,H4,Z++[.cells [.int .i64 h,.int .i64 q] true],Aj),by dsimp only;omega,hO4,hF4,hsj,hpj,fun r hr q' hrq=>?_⟩ (by dsimp only;omega) (.inl (by simp))
                  dsimp only at hr
                  rw [tk,List.mem_append] at hr
                  rcases hr with hr|hr
                  · exact haj r hr q' hrq
                  · simp only [List.mem_singleton] at hr
                    subst hr
                    simp only [Prod.mk.injEq] at hrq
                    obtain rfl:q=q':=by omega
                    exact⟨hskip.2,fun hh=>absurd hh hskip.1⟩
                refine e_cut (fun t' h'=>t'=[(0,.int .i64 s),(1,.int .i64 b),(2,.ptr x.rid 0),(3,.ptr x.acid 0),(4,.ptr x.gcid 0),(5,.ptr x.lid 0),(6,.ptr x.fcid 0),(11,.ptr (H3.length+X.length) 0),(17,.ptr (H4.length+(Y.length+Z.length)) 0),(19,.int .i64 b),(20,.int .i64 h),(65,.slice lid loff R.length 2 lex),(66,.int .i64 R.length),(67,.int .i64 j),(78,.bool false)]∧h'=H4++(Y++(Z++[.cells [.int .i64 h,.int .i64 q] true]))) ?_ ?_
                · by_cases hqs2:q=s
                  · have c1:(q:Int)=(s:Int):=by omega
                    repeat (first|((with_reducible apply e_end);(simp;exact Rz))|((with_reducible apply O1);rfl;(simp (disch:=omega) [hpr4,c1];exact Rz);exact Rz;(focus (first|(simp;done)|omega|(simp;omega))))|((with_reducible apply Z1);(simp (disch:=omega) [hpr4,c1];exact Rz)))
                    exact q_keep ⟨by simp [c1],by simp [c1]⟩
                  · have c1:¬ (q:Int)=(s:Int):=by omega
                    repeat (first|((with_reducible apply O1);rfl;(simp (disch:=omega) [hpr4,c1,rd_old _ l2,f2];exact Rz);exact Rz;(focus (first|(simp;done)|omega|(simp;omega))))|((with_reducible apply Z7);(simp (disch:=omega) [hpr4,c1,rd_old _ l2,f2];exact Rz)))
                    (with_reducible apply e_op);rfl;exact den_getM (k:=((h:Int),(q:Int))) (f:=mA Aj) rfl rfl (at_old _ ao1) ao2;exact Rz;trivial
                    have haf:Aj h q=false:=by cases hh:Aj h q with|false=>rfl|true=>exact absurd ⟨hqs2,hh⟩ hskip
                    rw [mA_get,haf]
                    repeat (first|((with_reducible apply e_end);(simp;exact Rz))|((with_reducible apply O1);rfl;(simp (disch:=omega);exact Rz);exact Rz;(focus (first|(simp;done)|omega|(simp;omega)))))
                    exact q_keep ⟨rfl,rfl⟩
                rintro _ _ ⟨rfl,rfl⟩
                have hmark:q≠s→Aj h q=false:=fun hh=>by cases h2:Aj h q with|false=>rfl|true=>exact absurd ⟨hh,h2⟩ hskip
                repeat (first|(with_reducible first|apply X1|apply X2|apply X5|apply X8)|((with_reducible apply O1);rfl;(simp (disch:=omega) [rd_old _ l2,f2];exact Rz);exact Rz;(focus (first|(simp;done)|omega|(simp;omega))))|((with_reducible apply W3);(simp (disch:=omega) [rd_old _ l2,f2];exact Rz)))
                refine e_putM (k:=((h:Int),(q:Int))) (v:=.bool true) (f:=mA Aj) (by simp;exact Rz) (by simp;exact Rz) (by simp;exact Rz) (at_old _ ao1) ao2 ?_
                intro o5 ho5
                rw [upd_mA] at ho5
                rw [set_old hF4.alt]
                have hF5:=hF4.setA ho5
                have hO5:=hO4.trans (Only.set o5 (.inl rfl))
                have hl5:(H4.set x.aid o5).length=H4.length:=by simp
                rw [← hl5]
                clear ho5 ao1 ao2 f1 f2 f3 f4 hpr4 hrow4
                generalize H4.set x.aid o5=H5 at *
                have hH5:H5.length=H3.length:=by omega
                have f1:=hF5.rr
                have f2:=hF5.ac
                have f3:=hF5.gc
                have f4:=hF5.fc
                have l1:=rd_lt f1
                have l2:=rd_lt f2
                have l3:=rd_lt f3
                have l4:=rd_lt f4
                have l5:=hF5.llt
                obtain⟨go,go1,go2⟩:=hF5.gm
                repeat (first|(with_reducible first|apply X1|apply X2|apply X8)|((with_reducible apply e_end);(simp;exact Rz))|((with_reducible apply O1);rfl;(simp (disch:=omega) [rd_old _ l3,f3];exact Rz);exact Rz;(focus (first|(simp;done)|omega|(simp;omega)))))
                (with_reducible apply e_op);rfl;exact den_getM (k:=((h:Int),(q:Int))) (f:=mG G) rfl rfl (at_old _ go1) go2;exact Rz;trivial
                rw [mG_get G h q hu]
                repeat (first|(with_reducible first|apply X1|apply X2|apply X8)|((with_reducible apply e_end);(simp;exact Rz))|((with_reducible apply O1);rfl;(simp (disch:=omega) [rd_old _ l4,f4];exact Rz);exact Rz;(focus (first|(simp;done)|omega|(simp;omega)))))
                have hua:ua (putA Aj h q)≤((n-1:Nat):Int):=Int.le_trans (ua_sub (hsj.trans (sub_put _ _ _))) hA2n
                (with_reducible apply e_callV);(simp;exact Rz);(simp;exact Rz);exact ih (n-1) hn1 _ (putA Aj h q) G Lf q u (hF5.app _) hua hv hl (hv h q u hu).2.1 (hv h q u hu).2.2.1
                rintro v h' ⟨hOc,A5,hres⟩
                obtain⟨H6,rfl,hO6⟩:=hOc.split hF5.alt hF5.glt hF5.llt
                have hH6:=hO6.1
                have hO6b:=hO5.trans hO6
                rw [← hH6]
                have b1:=hF5.alt
                have b2:=hF5.glt
                have b3:=hF5.slt
                rcases hres with⟨G1,L1,rfl,hF6a,hw⟩|⟨rfl,hF6a,hlo⟩
                · have hF6:=hF6a.cut ⟨by omega,by omega,by omega,by omega,by omega,by omega,by omega,by omega⟩
                  obtain⟨go,go1,go2⟩:=hF6.gm
                  have f3:=hF6.gc
                  have hG1:G1 h q=some u:=by rw [hw.keep h q (put_at _ _ _)];exact hu
                  repeat (first|(with_reducible first|apply X1|apply X2|apply X8)|((with_reducible apply e_end);(simp;exact Rz))|((with_reducible apply O1);rfl;(simp (disch:=omega) [rd_old _ (rd_lt f3),f3];exact Rz);exact Rz;(focus (first|(simp;done)|omega|(simp;omega))))|((with_reducible apply Z9);(simp (disch:=omega) [rd_old _ (rd_lt f3),f3];exact Rz)))
                  refine e_delM (k:=((h:Int),(q:Int))) (f:=mG G1) (by simp;exact Rz) (by simp;exact Rz) (at_old _ go1) go2 (by rw [mG_at,hG1];rfl) ?_
                  intro o6 ho6
                  rw [del_mG] at ho6
                  rw [set_old hF6.glt]
                  have hF7:=hF6.setG ho6
                  have hO7:=hO6b.trans (Only.set o6 (.inr (.inl rfl)))
                  have hl7:(H6.set x.gid o6).length=H3.length:=by simp;omega
                  clear ho6 go1 go2 f3
                  generalize H6.set x.gid o6=H7 at *
                  obtain⟨go,go1,go2⟩:=hF7.gm
                  have f3:=hF7.gc
                  have hpr7:=fun Z=>rd_tail Z hl7 (Nat.le_add_right _ _) hpr
                  repeat (first|(with_reducible first|apply X1|apply X2|apply X8)|((with_reducible apply e_end);(simp;exact Rz))|((with_reducible apply O1);rfl;(simp (disch:=omega) [rd_old _ (rd_lt f3),f3,hpr7];exact Rz);exact Rz;(focus (first|(simp;done)|omega|(simp;omega)))))
                  refine e_putM (k:=((h:Int),(s:Int))) (v:=.int .i64 b) (f:=mG (putG G1 h q none)) (by simp;exact Rz) (by simp;exact Rz) (by simp;exact Rz) (at_old _ go1) go2 ?_
                  intro o8 ho8
                  rw [upd_mG] at ho8
                  rw [set_old hF7.glt]
                  have hF8:=hF7.setG ho8
                  have hO8:=hO7.trans (Only.set o8 (.inr (.inl rfl)))
                  repeat (first|(with_reducible first|apply X1|apply X2|apply X3|apply X8|apply X9|apply Y3|apply Y5)|((with_reducible apply e_end);(simp;exact Rz))|((with_reducible apply O1);rfl;(simp (disch:=omega);exact Rz);exact Rz;(focus (first|(simp;done)|omega|(simp;omega)))))
                  exact q_post (.inr rfl) (by simp;exact Rz) (le_chg2 (hO8.chg hF8) (le_drop (t':=[(0,.bool true)]) (by simp [lk]))) ⟨hO8,_,.inl ⟨_,_,rfl,hF8,won_swap hN hsN hq12 hB hlt hb hS hsub hA1 hsj hmark hu hqs hw⟩⟩
                · have hF6:=hF6a.cut ⟨by omega,by omega,by omega,by omega,by omega,by omega,by omega,by omega⟩
                  repeat (first|(with_reducible first|apply X2|apply X5|apply X8|apply Y2)|((with_reducible apply e_end);(simp;exact Rz))|((with_reducible apply O1);rfl;(simp (disch:=omega);exact Rz);exact Rz;(focus (first|(simp;done)|omega|(simp;omega))))|((with_reducible apply W3);(simp (disch:=omega);exact Rz)))
                  refine q_again ⟨(j+1,H6,Z++[.cells [.int .i64 h,.int .i64 q] true],A5),by dsimp only;omega,hO6b,hF6,hsj.trans ((sub_put _ _ _).trans hlo.sub),?_,fun r hr q' hrq=>?_⟩ (by dsimp only;omega) (.inl (by simp))
                  · refine hpj.trans ?_ ((sub_put _ _ _).trans hlo.sub)
                    intro a c h1 h2
                    by_cases hac:a=h∧c=q
                    · obtain⟨rfl,rfl⟩:=hac
                      exact⟨⟨by omega,hq12,(hv a c u hu).2.2.2⟩,fun w hw h' hl hn=>by rw [hu] at hw;cases hw;exact hlo.clo h' hl hn,fun hn=>by rw [hu] at hn;cases hn⟩
                    · exact hlo.pend a c (by simp only [putA];rw [if_neg hac];exact h1) h2
                  · dsimp only at hr
                    rw [tk,List.mem_append] at hr
                    rcases hr with hr|hr
                    · obtain⟨k1,k2⟩:=haj r hr q' hrq
                      exact⟨hlo.sub _ _ (sub_put _ _ _ _ _ k1),fun hqq w hw h' hl hn=>hlo.sub _ _ (sub_put _ _ _ _ _ (k2 hqq w hw h' hl hn))⟩
                    · simp only [List.mem_singleton] at hr
                      subst hr
                      simp only [Prod.mk.injEq] at hrq
                      obtain rfl:q=q':=by omega
                      refine⟨hlo.sub _ _ (put_at _ _ _),fun hqq w hw h' hl hn=>?_⟩
                      subst hqq
                      rw [hu] at hw;cases hw
                      exact hlo.clo h' hl hn
              · have hjl2:¬ (j:Int)<R.length:=by omega
                obtain rfl:j=R.length:=by omega
                rw [List.take_length] at haj
                repeat (first|(with_reducible first|apply X1|apply X2|apply X4|apply X8|apply Y1|apply Y2|apply Y4|apply Y6)|((with_reducible apply e_end);(simp;exact Rz))|((with_reducible apply O1);rfl;(simp (disch:=omega) [hjl2];exact Rz);exact Rz;(focus (first|(simp;done)|omega|(simp;omega))))|((with_reducible apply W3);(simp (disch:=omega) [hjl2];exact Rz)))
                refine q_again ⟨(h+1,H4,Y++Z,Aj),by dsimp only;omega,hO4,hF4,hsub.trans ((sub_put _ _ _).trans hsj),fun k hk hn=>?_,?_⟩ (by dsimp only;omega) (.inl (by simp))
                · by_cases hk2:k=h
                  · subst hk2;exact hsj _ _ (put_at _ _ _)
                  · exact hsj _ _ (sub_put _ _ _ _ _ (hclo k (by dsimp only at hk;omega) hn))
                · refine hpe.trans ?_ ((sub_put _ _ _).trans hsj)
                  intro a c h1 h2
                  by_cases hac:a=h∧c=s
                  · obtain⟨rfl,rfl⟩:=hac
                    exact⟨⟨by omega,hs,hS⟩,fun w hw h' hl hn=>(haj _ (hRc1 w hw) c rfl).2 rfl w hw h' hl hn,fun hn=>⟨hstuck hn,fun q hq=>(haj _ (hRc2 hn q hq) q rfl).1⟩⟩
                  · exact hpj a c (by simp only [putA];rw [if_neg hac];exact h1) h2
    · have hlt2:¬ (h:Int)<b:=by omega
      obtain rfl:h=b:=by omega
      repeat (first|(with_reducible first|apply X1|apply X2|apply X3|apply X4|apply X8|apply Y1|apply Y4|apply Y6)|((with_reducible apply e_end);(simp;exact Rz))|((with_reducible apply O1);rfl;(simp (disch:=omega) [hlt2];exact Rz);exact Rz;(focus (first|(simp;done)|omega|(simp;omega))))|((with_reducible apply W3);(simp (disch:=omega) [hlt2];exact Rz)))
      exact q_post (.inr rfl) (by simp;exact Rz) (le_chg2 (hO.chg hF2) (le_drop (t':=[(0,.bool false)]) (by simp [lk]))) ⟨hO,A1,.inr ⟨rfl,hF2,hsub,hclo,hpe⟩⟩
end Go.Proofs
