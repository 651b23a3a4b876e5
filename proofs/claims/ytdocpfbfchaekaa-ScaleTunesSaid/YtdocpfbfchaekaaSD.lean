/- Several texts as one. -/
import Derived.Test.YtdocpfbfchaekaaSC
/- Scale: whether a bay and gear are valid,by the reference. -/
namespace Go.Proofs
open Go.Abs
attribute [local simp] AOp.den AOpd.ev lk cellsOf rd_new rd_new0 rd_zero rd_succ wr_new wr_new0 wr_zero wr_succ splice fillA binA scal sliceCells List.length_append argsT AV.sc scL AObj.sc resV getAll AR.get AOp.slots opdSlots opdsSlots partSlots eqAt at_new0 at_new set_new0 set_new wrap64
set_option linter.unusedSimpArgs false
set_option linter.unusedVariables false
set_option maxHeartbeats 2000000 in
theorem c_r4Bay (H:Heap) (B:List SP) (id off:Nat) (ex2:Bool) (hB:BayAt H id off B) (hn:(B.length:Int)<1000000) {b:Bool} (hb:b=true↔okB B∧B.length≤4) :
    ACalls Try.prog F.ref04_Bay [.agg [.slice id off B.length 7 ex2]] H (fun v h'=>v=.bool b∧h'=H):=by
  have hrl:=rd_lt hB.rows
  have hno:¬ okB B→AV.bool false=.bool b:=fun h=>by rw [AV.bool.injEq];cases b;rfl;exact absurd (hb.1 rfl).1 h
  refine acalls_of ok_ref04_Bay rfl fun hcl=>?_
  unfold ac_ref04_Bay zo
  simp only [argsT,Nat.zero_add,Nat.reduceAdd]
  repeat (first|(with_reducible first|apply X1|apply X2|apply X6|apply X8)|((with_reducible apply e_end);(simp;exact Rz))|((with_reducible apply O1);rfl;(simp (disch:=omega);exact Rz);exact Rz;(focus (first|(simp;done)|omega|(simp;omega)))))
  refine e_loop (ι:={ i:Nat // i≤B.length∧∀ j,j<i→gdB B j }) (fun i=>[(1,.ptr H.length 0),(3,.int .i64 i.1)]) (fun _=>H++[.cells [.slice id off B.length 7 ex2] true]) (fun i=>B.length-i.1) ⟨0,by simp⟩ ?_ ?_
  · exact .inl (by simp)
  · rintro⟨i,hi,hg⟩
    dsimp only
    by_cases hlt:i<B.length
    · have hlt2:(i:Int)<B.length:=by omega
      have hr:=hB.row hlt
      have ht:=hB.trs _ (bAt_mem hlt)
      have htl:=rd_lt ht.1
      have hm0:i * 7+7≤B.length * 7:=by omega
      obtain⟨b1,h1⟩:=bof (bAt B i).s.ok
      have kb:=fun X=>c_r4Scale (H++X) (bAt B i).s (bAt B i).tid (bAt B i).toff (bAt B i).ex (by rw [rd_old _ (rd_lt ht.1)];exact ht.1) ht.2 h1
      have hr0:rd H id (off+i * 7) 1=some [.int .i64 (bAt B i).s.id]:=by have:=rd_sub' hr 0 1 (by omega);simpa [SP.av,Sc.av] using this
      simp only [SP.av,Sc.av] at hr kb
      repeat (first|(with_reducible first|apply X1|apply X2|apply X5|apply X6|apply X8|apply Y9)|((with_reducible apply e_end);(simp;exact Rz))|((first|((with_reducible apply O1);rfl)|((with_reducible apply P1);rfl)|((with_reducible apply P2);rfl));(simp (disch:=omega) [hlt,hlt2,rd_old _ hrl,hr];exact Rz);exact Rz;(focus (first|(simp;done)|omega|(simp;omega))))|((with_reducible apply Z9);(simp (disch:=omega) [hlt,hlt2,rd_old _ hrl,hr];exact Rz)))
      (with_reducible apply d_call);(simp;exact Rz);exact kb _;(focus (first|(simp;done)|(simp;omega)))
      cases b1 with
      | false =>
        repeat (first|(with_reducible first|apply X1|apply X2|apply X3|apply X8|apply X9|apply Y3|apply Y5)|((with_reducible first|apply e_end|apply d_end);(simp;exact Rz))|((first|((with_reducible apply O1);rfl)|((with_reducible apply P1);rfl));(simp (disch:=omega);exact Rz);exact Rz;(focus (first|(simp;done)|omega|(simp;omega))))|((with_reducible apply Z9);(simp (disch:=omega);exact Rz))|((with_reducible apply Z6);(simp (disch:=omega);exact Rz))|((with_reducible apply W2);(simp (disch:=omega);exact Rz)))
        refine q_drop (.inr rfl) (by simp;exact Rz) (by simp) ⟨hno fun h=>absurd (h1.2 (h i hlt).2) (by decide),rfl⟩
      | true =>
        by_cases h0:i=0
        · have hz:¬ 0<i:=by omega
          repeat (first|(with_reducible first|apply X2|apply X5|apply X8|apply Y2)|((with_reducible first|apply e_end|apply d_end);(simp;exact Rz))|((first|((with_reducible apply O1);rfl)|((with_reducible apply P1);rfl));(simp (disch:=omega) [hz];exact Rz);exact Rz;(focus (first|(simp;done)|omega|(simp;omega))))|((with_reducible apply Z8);(simp (disch:=omega) [hz];exact Rz))|((with_reducible apply Z5);(simp (disch:=omega) [hz];exact Rz))|((with_reducible apply W3);(simp (disch:=omega) [hz];exact Rz)))
          refine q_again ⟨i+1,hlt,fun j hj=>?_⟩ (by dsimp only;omega) (.inl (by simp))
          rcases Nat.lt_or_ge j i with h|h
          · exact hg j h
          · have:j=i:=by omega
            subst this;exact⟨fun h=>by omega,h1.1 rfl⟩
        · have hz:0<i:=by omega
          have hq0:=hB.row (i:=i-1) (by omega)
          have hq1:rd H id (off+(i-1) * 7) 1=some [.int .i64 (bAt B (i-1)).s.id]:=by have:=rd_sub' hq0 0 1 (by omega);simpa [SP.av,Sc.av] using this
          have en:((i:Int)-1).toNat=i-1:=by omega
          have e0:(0:Int)≤(i:Int)-1:=by omega
          have e1:(i:Int)-1<B.length:=by omega
          by_cases hid:(bAt B i).s.id≤(bAt B (i-1)).s.id
          · repeat (first|(with_reducible first|apply X1|apply X2|apply X3|apply X8|apply X9|apply Y3|apply Y5)|((with_reducible first|apply e_end|apply d_end);(simp;exact Rz))|((first|((with_reducible apply O1);rfl)|((with_reducible apply P1);rfl)|((with_reducible apply P2);rfl));(simp (disch:=omega) [hlt,hlt2,rd_old _ hrl,hr0,hz,en,e0,e1,hq1,hid];exact Rz);exact Rz;(focus (first|(simp;done)|omega|(simp;omega))))|((with_reducible first|apply Z8|apply Z9);(simp (disch:=omega) [hlt,hlt2,rd_old _ hrl,hr0,hz,en,e0,e1,hq1,hid];exact Rz)))
            refine q_drop (.inr rfl) (by simp;exact Rz) (by simp) ⟨hno fun h=>by have:=(h i hlt).1 hz;omega,rfl⟩
          · repeat (first|(with_reducible first|apply X2|apply X5|apply X8|apply Y2)|((with_reducible first|apply e_end|apply d_end);(simp;exact Rz))|((first|((with_reducible apply O1);rfl)|((with_reducible apply P1);rfl)|((with_reducible apply P2);rfl));(simp (disch:=omega) [hlt,hlt2,rd_old _ hrl,hr0,hz,en,e0,e1,hq1,hid];exact Rz);exact Rz;(focus (first|(simp;done)|omega|(simp;omega))))|((with_reducible apply Z8);(simp (disch:=omega) [hlt,hlt2,rd_old _ hrl,hr0,hz,en,e0,e1,hq1,hid];exact Rz))|((with_reducible apply W3);(simp (disch:=omega) [hlt,hlt2,rd_old _ hrl,hr0,hz,en,e0,e1,hq1,hid];exact Rz)))
            refine q_again ⟨i+1,hlt,fun j hj=>?_⟩ (by dsimp only;omega) (.inl (by simp))
            rcases Nat.lt_or_ge j i with h|h
            · exact hg j h
            · have:j=i:=by omega
              subst this;exact⟨fun _=>by omega,h1.1 rfl⟩
    · have hlt2:¬ (i:Int)<B.length:=by omega
      obtain rfl:i=B.length:=by omega
      by_cases h4:B.length≤4
      · have h42:(B.length:Int)≤4:=by omega
        repeat (first|(with_reducible first|apply X1|apply X2|apply X3|apply X4|apply X8|apply Y1|apply Y4|apply Y6)|((with_reducible apply e_end);(simp;exact Rz))|((with_reducible apply O1);rfl;(simp (disch:=omega) [hlt2,h4,h42];exact Rz);exact Rz;(focus (first|(simp;done)|omega|(simp;omega))))|((with_reducible apply W3);(simp (disch:=omega) [hlt2,h4,h42];exact Rz)))
        refine q_drop (.inr rfl) (by simp;exact Rz) (by simp) ⟨by rw [AV.bool.injEq];exact (hb.2 ⟨hg,h4⟩).symm,rfl⟩
      · have h42:¬ (B.length:Int)≤4:=by omega
        repeat (first|(with_reducible first|apply X1|apply X2|apply X3|apply X4|apply X8|apply Y1|apply Y4|apply Y6)|((with_reducible apply e_end);(simp;exact Rz))|((with_reducible apply O1);rfl;(simp (disch:=omega) [hlt2,h4,h42];exact Rz);exact Rz;(focus (first|(simp;done)|omega|(simp;omega))))|((with_reducible apply W3);(simp (disch:=omega) [hlt2,h4,h42];exact Rz)))
        refine q_drop (.inr rfl) (by simp;exact Rz) (by simp) ⟨by rw [AV.bool.injEq];cases b;rfl;exact absurd (hb.1 rfl).2 h4,rfl⟩
def whB (B:List SP) (id:Int):Nat→Option Nat
  | 0=>none
  | i+1=>match whB B id i with
    | some j=>some j
    | none=>if (bAt B i).s.id=id then some i else none
theorem whB_none {B:List SP} {id:Int}:∀ {i},whB B id i=none↔∀ j,j<i→(bAt B j).s.id≠id
  | 0=>by simp [whB]
  | i+1=>by
    have ih:=whB_none (B:=B) (id:=id) (i:=i)
    simp only [whB]
    cases h:whB B id i with
    | some j =>
      simp only [reduceCtorEq,false_iff]
      intro h2
      rw [ih.2 fun j hj=>h2 j (by omega)] at h;cases h
    | none =>
      rw [h] at ih
      have ih2:=ih.1 rfl
      constructor
      · intro h2 j hj
        rcases Nat.lt_or_ge j i with h3|h3
        · exact ih2 j h3
        · have:j=i:=by omega
          subst this
          intro h4;simp [h4] at h2
      · intro h2;simp [h2 i (by omega)]
theorem whB_some {B:List SP} {id:Int} {k:Nat}:∀ {i},whB B id i=some k→k<i∧(bAt B k).s.id=id
  | 0,h=>by cases h
  | i+1,h=>by
    simp only [whB] at h
    split at h
    · rename_i j hj
      cases h
      have:=whB_some hj
      exact⟨by omega,this.2⟩
    · split at h
      · rename_i h2;cases h;exact⟨by omega,h2⟩
      · cases h
def whV (B:List SP) (id:Int):Int:=match whB B id B.length with
  | some k=>k
  | none=>-1
theorem c_r4At (H:Heap) (B:List SP) (id off:Nat) (ex2:Bool) (hB:BayAt H id off B) (hn:(B.length:Int)<1000000) (q:Int) :
    ACalls Try.prog F.ref04_At [.agg [.slice id off B.length 7 ex2],.int .i64 q] H (fun v h'=>v=.int .i64 (whV B q)∧h'=H):=by
  have hrl:=rd_lt hB.rows
  refine acalls_of ok_ref04_At rfl fun hcl=>?_
  unfold ac_ref04_At zo
  simp only [argsT,Nat.zero_add,Nat.reduceAdd]
  repeat (first|(with_reducible first|apply X1|apply X2|apply X6|apply X8)|((with_reducible apply e_end);(simp;exact Rz))|((with_reducible apply O1);rfl;(simp (disch:=omega);exact Rz);exact Rz;(focus (first|(simp;done)|omega|(simp;omega)))))
  refine e_loop (ι:={ i:Nat // i≤B.length∧whB B q i=none }) (fun i=>[(1,.int .i64 q),(2,.ptr H.length 0),(5,.int .i64 i.1)]) (fun _=>H++[.cells [.slice id off B.length 7 ex2] true]) (fun i=>B.length-i.1) ⟨0,by simp [whB]⟩ ?_ ?_
  · exact .inl (by simp)
  · rintro⟨i,hi,hg⟩
    dsimp only
    by_cases hlt:i<B.length
    · have hlt2:(i:Int)<B.length:=by omega
      have hr:=hB.row hlt
      have hm0:i * 7+7≤B.length * 7:=by omega
      have hr0:rd H id (off+i * 7) 1=some [.int .i64 (bAt B i).s.id]:=by have:=rd_sub' hr 0 1 (by omega);simpa [SP.av,Sc.av] using this
      have e1:whB B q (i+1)=if (bAt B i).s.id=q then some i else none:=by simp only [whB,hg]
      by_cases he:(bAt B i).s.id=q
      · rw [if_pos he] at e1
        have keep:∀ m,whB B q (i+1+m)=some i:=fun m=>by
          induction m with
          | zero=>exact e1
          | succ m ih=>show (match whB B q (i+1+m) with|some j=>some j|none=>_)=some i;rw [ih]
        have e2:=keep (B.length-(i+1))
        rw [show i+1+(B.length-(i+1))=B.length by omega] at e2
        repeat (first|(with_reducible first|apply X1|apply X2|apply X3|apply X5|apply X6|apply X8|apply X9|apply Y3|apply Y5)|((with_reducible apply e_end);(simp;exact Rz))|((with_reducible apply O1);rfl;(simp (disch:=omega) [hlt,hlt2,rd_old _ hrl,hr0,he];exact Rz);exact Rz;(focus (first|(simp;done)|omega|(simp;omega))))|((with_reducible apply Z9);(simp (disch:=omega) [hlt,hlt2,rd_old _ hrl,hr0,he];exact Rz)))
        refine q_drop (.inr rfl) (by simp;exact Rz) (by simp) ⟨by simp only [whV,e2],rfl⟩
      · rw [if_neg he] at e1
        repeat (first|(with_reducible first|apply X1|apply X2|apply X5|apply X6|apply X8|apply Y2)|((with_reducible apply e_end);(simp;exact Rz))|((with_reducible apply O1);rfl;(simp (disch:=omega) [hlt,hlt2,rd_old _ hrl,hr0,he];exact Rz);exact Rz;(focus (first|(simp;done)|omega|(simp;omega))))|((with_reducible apply Z9);(simp (disch:=omega) [hlt,hlt2,rd_old _ hrl,hr0,he];exact Rz))|((with_reducible apply W3);(simp (disch:=omega) [hlt,hlt2,rd_old _ hrl,hr0,he];exact Rz)))
        exact q_again ⟨i+1,hlt,e1⟩ (by dsimp only;omega) (.inl (by simp))
    · have hlt2:¬ (i:Int)<B.length:=by omega
      obtain rfl:i=B.length:=by omega
      repeat (first|(with_reducible first|apply X1|apply X2|apply X3|apply X4|apply X8|apply Y1|apply Y4|apply Y6)|((with_reducible apply e_end);(simp;exact Rz))|((with_reducible apply O1);rfl;(simp (disch:=omega) [hlt2];exact Rz);exact Rz;(focus (first|(simp;done)|omega|(simp;omega))))|((with_reducible apply W3);(simp (disch:=omega) [hlt2];exact Rz)))
      refine q_drop (.inr rfl) (by simp;exact Rz) (by simp) ⟨by simp only [whV,hg],rfl⟩
theorem c_r4numbers (H:Heap) (v:AV) (xs:List Int) (hI:IAt H v xs) (hn:(xs.length:Int)<1000000) (most lo hi:Int) {b:Bool} (hb:b=true↔(xs.length:Int)≤most∧∀ x∈xs,lo≤x∧x≤hi) :
    ACalls Try.prog F.ref04_numbers [v,.int .i64 most,.int .i64 lo,.int .i64 hi] H (fun r h'=>r=.bool b∧h'=H):=by
  have sv:=RAt.sc hI (Nat.le_refl _)
  refine acalls_of ok_ref04_numbers rfl fun hcl=>?_
  unfold ac_ref04_numbers zo
  simp only [argsT,Nat.zero_add,Nat.reduceAdd]
  repeat (first|(with_reducible first|apply X1|apply X2|apply X6|apply X8)|((with_reducible apply e_end);(simp;exact Rz))|((with_reducible apply O1);rfl;(simp (disch:=omega);exact Rz);exact Rz;(focus (first|(simp;done)|omega|(simp;omega)))))
  refine e_loop (ι:={ i:Nat // i≤xs.length∧∀ j,j<i→lo≤gI xs j∧gI xs j≤hi }) (fun i=>[(0,v),(1,.int .i64 most),(2,.int .i64 lo),(3,.int .i64 hi),(9,.int .i64 i.1)]) (fun _=>H) (fun i=>xs.length-i.1) ⟨0,by simp⟩ ?_ ?_
  · exact .inl rfl
  · rintro⟨i,hil,hg⟩
    dsimp only
    repeat (first|(with_reducible first|apply X1|apply X2)|((with_reducible apply O1);rfl;(simp (disch:=omega);exact Rz);exact Rz;(focus (first|(simp;done)|omega|(simp;omega)))))
    refine O1 rfl (RAt.len hI _ (by simp)) Rz trivial ?_
    by_cases hlt:i<xs.length
    · have hlt2:(i:Int)<xs.length:=by omega
      obtain⟨id,off,ex,rfl,hx,hid⟩:=IAt.get hI hlt
      rw [← gI_eq hlt] at hx
      obtain⟨b1,h1⟩:=bof (lo≤gI xs i∧gI xs i≤hi)
      repeat (first|(with_reducible first|apply X1|apply X2|apply X5|apply X6|apply X8)|((with_reducible apply e_end);(simp;exact Rz))|((with_reducible apply O1);rfl;(simp (disch:=omega) [hlt,hlt2,hx];exact Rz);exact Rz;(focus (first|(simp;done)|omega|(simp;omega))))|((with_reducible apply Z9);(simp (disch:=omega) [hlt,hlt2,hx];exact Rz)))
      (with_reducible apply e_call);(simp;exact Rz);exact c_r4within _ _ _ _ h1
      rintro _ hqh ⟨rfl,hqe⟩
      rw [hqe];clear hqe hqh
      cases b1 with
      | false =>
        repeat (first|(with_reducible first|apply X1|apply X2|apply X3|apply X8|apply X9|apply Y3|apply Y5)|((with_reducible apply e_end);(simp;exact Rz))|((with_reducible apply O1);rfl;(simp (disch:=omega);exact Rz);exact Rz;(focus (first|(simp;done)|omega|(simp;omega))))|((with_reducible apply Z9);(simp (disch:=omega);exact Rz)))
        refine q_drop0 (.inr rfl) (by simp;exact Rz) (by simp) ⟨by rw [AV.bool.injEq];cases b;rfl;exact absurd (h1.2 ((hb.1 rfl).2 _ (by rw [gI_eq hlt];exact List.getElem_mem _))) (by decide),rfl⟩
      | true =>
        repeat (first|(with_reducible first|apply X2|apply X5|apply X8|apply Y2)|((with_reducible apply e_end);(simp;exact Rz))|((with_reducible apply O1);rfl;(simp (disch:=omega);exact Rz);exact Rz;(focus (first|(simp;done)|omega|(simp;omega))))|((with_reducible apply W3);(simp (disch:=omega);exact Rz)))
        refine q_again ⟨i+1,hlt,fun j hj=>?_⟩ (by dsimp only;omega) (.inl (by simp))
        rcases Nat.lt_or_ge j i with h|h
        · exact hg j h
        · have:j=i:=by omega
          subst this;exact h1.1 rfl
    · have hlt2:¬ (i:Int)<xs.length:=by omega
      obtain rfl:i=xs.length:=by omega
      have hall:∀ x∈xs,lo≤x∧x≤hi:=fun x hx=>by
        obtain⟨k,hk,rfl⟩:=List.mem_iff_getElem.1 hx
        have:=hg k hk
        rwa [gI_eq hk] at this
      repeat (first|(with_reducible first|apply X1|apply X2|apply X4|apply X8|apply Y1|apply Y4|apply Y6)|((with_reducible apply e_end);(simp;exact Rz))|((with_reducible apply O1);rfl;(simp (disch:=omega) [hlt,hlt2];exact Rz);exact Rz;(focus (first|(simp;done)|omega|(simp;omega))))|((with_reducible apply W3);(simp (disch:=omega) [hlt,hlt2];exact Rz)))
      refine O1 rfl (RAt.len hI _ (by simp)) Rz trivial ?_
      repeat (first|(with_reducible first|apply X3|apply X8)|((with_reducible apply e_end);(simp;exact Rz))|((with_reducible apply O1);rfl;(simp (disch:=omega);exact Rz);exact Rz;(focus (first|(simp;done)|omega|(simp;omega)))))
      refine q_drop0 (.inr rfl) (by simp;exact Rz) (by simp) ⟨by rw [AV.bool.injEq,Bool.eq_iff_iff,hb,decide_eq_true_eq];exact⟨fun h=>⟨h,hall⟩,fun h=>h.1⟩,rfl⟩
set_option maxHeartbeats 2000000 in
theorem c_r4Bare (H:Heap) (g:Gr) (lv rv kv:AV) (hg:GAt H g lv rv kv) {b:Bool} (hb:b=true↔g.bare):ACalls Try.prog F.ref04_Bare [.agg (g.av lv rv kv)] H (fun v h'=>v=.bool b∧h'=H):=by
  have hno:¬ g.bare→AV.bool false=.bool b:=fun h=>by rw [AV.bool.injEq];cases b;rfl;exact absurd (hb.1 rfl) h
  have sl:∀ m,lv.sc (H.length+m)=true:=fun m=>RAt.sc hg.l (by omega)
  have sr:∀ m,rv.sc (H.length+m)=true:=fun m=>RAt.sc hg.r (by omega)
  have sk:∀ m,kv.sc (H.length+m)=true:=fun m=>RAt.sc hg.k (by omega)
  have nr:=hg.rn
  have nk:=hg.kn
  obtain⟨c1,e1⟩:=bof (0≤g.added∧g.added≤1000000)
  obtain⟨c2,e2⟩:=bof (-1000≤g.base∧g.base≤1000)
  obtain⟨c3,e3⟩:=bof (0≤g.jit∧g.jit≤1000)
  obtain⟨c4,e4⟩:=bof ((g.rs.length:Int)≤8∧∀ x∈g.rs,-1000≤x∧x≤1000)
  obtain⟨c5,e5⟩:=bof ((g.ks.length:Int)≤8∧∀ x∈g.ks,0≤x∧x≤2000)
  obtain⟨c6,e6⟩:=bof (0≤g.spread∧g.spread≤2000)
  simp only [Gr.av]
  refine acalls_of ok_ref04_Bare rfl fun hcl=>?_
  unfold ac_ref04_Bare zo
  simp only [argsT,Nat.zero_add,Nat.reduceAdd]
  repeat (first|(with_reducible first|apply X1|apply X2|apply X8)|((with_reducible apply e_end);(simp;exact Rz))|((with_reducible apply O1);rfl;(simp (disch:=omega);exact Rz);exact Rz;(focus (first|(simp;done)|omega|(simp;omega)))))
  (with_reducible apply e_call);(simp;exact Rz);exact c_r4within _ _ _ _ e1
  rintro _ _ ⟨rfl,rfl⟩
  cases c1 with
  | false =>
    repeat (first|(with_reducible first|apply X3|apply X8)|((with_reducible apply e_end);(simp;exact Rz))|((with_reducible apply O1);rfl;(simp (disch:=omega);exact Rz);exact Rz;(focus (first|(simp;done)|omega|(simp;omega))))|((with_reducible apply Z1);(simp (disch:=omega);exact Rz)))
    refine q_drop (.inr rfl) (by simp;exact Rz) (by simp) ⟨hno fun h=>absurd (e1.2 h.ad) (by decide),rfl⟩
  | true =>
  repeat (first|((with_reducible apply O1);rfl;(simp (disch:=omega);exact Rz);exact Rz;(focus (first|(simp;done)|omega|(simp;omega))))|((with_reducible apply Z7);(simp (disch:=omega);exact Rz)))
  (with_reducible apply e_call);(simp;exact Rz);exact c_r4within _ _ _ _ e2
  rintro _ _ ⟨rfl,rfl⟩
  cases c2 with
  | false =>
    repeat (first|(with_reducible first|apply X3|apply X8)|((with_reducible apply e_end);(simp;exact Rz))|((with_reducible apply O1);rfl;(simp (disch:=omega);exact Rz);exact Rz;(focus (first|(simp;done)|omega|(simp;omega))))|((with_reducible apply Z1);(simp (disch:=omega);exact Rz)))
    refine q_drop (.inr rfl) (by simp;exact Rz) (by simp) ⟨hno fun h=>absurd (e2.2 h.ba) (by decide),rfl⟩
  | true =>
  repeat (first|((with_reducible apply O1);rfl;(simp (disch:=omega);exact Rz);exact Rz;(focus (first|(simp;done)|omega|(simp;omega))))|((with_reducible apply Z7);(simp (disch:=omega);exact Rz)))
  (with_reducible apply e_call);(simp;exact Rz);exact c_r4within _ _ _ _ e3
  rintro _ _ ⟨rfl,rfl⟩
  cases c3 with
  | false =>
    repeat (first|(with_reducible first|apply X3|apply X8)|((with_reducible apply e_end);(simp;exact Rz))|((with_reducible apply O1);rfl;(simp (disch:=omega);exact Rz);exact Rz;(focus (first|(simp;done)|omega|(simp;omega))))|((with_reducible apply Z1);(simp (disch:=omega);exact Rz)))
    refine q_drop (.inr rfl) (by simp;exact Rz) (by simp) ⟨hno fun h=>absurd (e3.2 h.ji) (by decide),rfl⟩
  | true =>
  repeat (first|((with_reducible apply O1);rfl;(simp (disch:=omega);exact Rz);exact Rz;(focus (first|(simp;done)|omega|(simp;omega))))|((with_reducible apply Z7);(simp (disch:=omega);exact Rz)))
  (with_reducible apply e_call);(simp;exact Rz);exact c_r4numbers _ _ _ (RAt.app hg.r _) nr _ _ _ e4
  rintro _ _ ⟨rfl,rfl⟩
  cases c4 with
  | false =>
    repeat (first|(with_reducible first|apply X3|apply X8)|((with_reducible apply e_end);(simp;exact Rz))|((with_reducible apply O1);rfl;(simp (disch:=omega);exact Rz);exact Rz;(focus (first|(simp;done)|omega|(simp;omega))))|((with_reducible apply Z1);(simp (disch:=omega);exact Rz)))
    refine q_drop (.inr rfl) (by simp;exact Rz) (by simp) ⟨hno fun h=>absurd (e4.2 ⟨by have:=h.rl;omega,h.ru⟩) (by decide),rfl⟩
  | true =>
  repeat (first|((with_reducible apply O1);rfl;(simp (disch:=omega);exact Rz);exact Rz;(focus (first|(simp;done)|omega|(simp;omega))))|((with_reducible apply Z7);(simp (disch:=omega);exact Rz)))
  (with_reducible apply e_call);(simp;exact Rz);exact c_r4numbers _ _ _ (RAt.app hg.k _) nk _ _ _ e5
  rintro _ _ ⟨rfl,rfl⟩
  cases c5 with
  | false =>
    repeat (first|(with_reducible first|apply X3|apply X8)|((with_reducible apply e_end);(simp;exact Rz))|((with_reducible apply O1);rfl;(simp (disch:=omega);exact Rz);exact Rz;(focus (first|(simp;done)|omega|(simp;omega))))|((with_reducible apply Z1);(simp (disch:=omega);exact Rz)))
    refine q_drop (.inr rfl) (by simp;exact Rz) (by simp) ⟨hno fun h=>absurd (e5.2 ⟨by have:=h.kl;omega,h.st⟩) (by decide),rfl⟩
  | true =>
  repeat (first|((with_reducible apply O1);rfl;(simp (disch:=omega);exact Rz);exact Rz;(focus (first|(simp;done)|omega|(simp;omega))))|((with_reducible apply Z7);(simp (disch:=omega);exact Rz)))
  (with_reducible apply e_call);(simp;exact Rz);exact c_r4within _ _ _ _ e6
  rintro _ _ ⟨rfl,rfl⟩
  repeat (first|(with_reducible first|apply X3|apply X8)|((with_reducible apply e_end);(simp;exact Rz))|((with_reducible apply O1);rfl;(simp (disch:=omega);exact Rz);exact Rz;(focus (first|(simp;done)|omega|(simp;omega)))))
  refine q_drop (.inr rfl) (by simp;exact Rz) (by simp) ⟨by rw [AV.bool.injEq,Bool.eq_iff_iff,hb,e6];exact⟨fun h=>⟨by have:=(e4.1 rfl).1;omega,by have:=(e5.1 rfl).1;omega,e1.1 rfl,e2.1 rfl,(e4.1 rfl).2,e3.1 rfl,h,(e5.1 rfl).2⟩,fun h=>h.sp⟩,rfl⟩
end Go.Proofs
/- Scale: Check and Great,by the reference. -/
namespace Go.Proofs
open Go.Abs
attribute [local simp] AOp.den AOpd.ev lk cellsOf rd_new rd_new0 rd_zero rd_succ wr_new wr_new0 wr_zero wr_succ splice fillA binA scal sliceCells List.length_append argsT AV.sc scL AObj.sc resV getAll AR.get AOp.slots opdSlots opdsSlots partSlots eqAt at_new0 at_new set_new0 set_new wrap64
set_option linter.unusedSimpArgs false
set_option linter.unusedVariables false
set_option maxHeartbeats 4000000 in
theorem c_r4Gear (H:Heap) (B:List SP) (id off:Nat) (ex2:Bool) (hB:BayAt H id off B) (hok:okB B) (hn:(B.length:Int)<1000000) (g:Gr) (lv rv kv:AV) (hg:GAt H g lv rv kv) {b:Bool} (hb:b=true↔okG B g) :
    ACalls Try.prog F.ref04_Gear [.agg [.slice id off B.length 7 ex2],.agg (g.av lv rv kv)] H (fun v h'=>v=.bool b∧h'=H):=by
  have hno:¬ okG B g→AV.bool false=.bool b:=fun h=>by rw [AV.bool.injEq];cases b;rfl;exact absurd (hb.1 rfl) h
  have hrl:=rd_lt hB.rows
  have sl:∀ m,lv.sc (H.length+m)=true:=fun m=>RAt.sc hg.l (by omega)
  have sr:∀ m,rv.sc (H.length+m)=true:=fun m=>RAt.sc hg.r (by omega)
  have sk:∀ m,kv.sc (H.length+m)=true:=fun m=>RAt.sc hg.k (by omega)
  have sl0:=sl 0
  have sr0:=sr 0
  have sk0:=sk 0
  rw [Nat.add_zero] at sl0 sr0 sk0
  obtain⟨bi,hbi⟩:=bof g.bare
  have ki:=fun X=>c_r4Bare (H++X) g lv rv kv (hg.app X) hbi
  have hlr:∀ j,j<g.ls.length→∃ lid loff lex,lv=.slice lid loff g.ls.length 2 lex∧lid<H.length∧rd H lid (loff+j * 2) 1=some [.int .i64 (lAt g.ls j).id]∧rd H lid (loff+j * 2+1) 1=some [.int .i64 (lAt g.ls j).n]:=fun j hj=>by
    obtain⟨lid,loff,lex,e,hr⟩:=hg.l.slice (by omega)
    have:=rd_row Ld.av_length hr hj
    rw [← lAt_eq hj] at this
    have t0:=rd_sub' this 0 1 (by omega)
    have t1:=rd_sub' this 1 1 (by omega)
    exact⟨lid,loff,lex,e,rd_lt hr,by simpa [Ld.av] using t0,by simpa [Ld.av] using t1⟩
  have hln:=hg.ln
  simp only [Gr.av] at ki ⊢
  refine acalls_of ok_ref04_Gear rfl fun hcl=>?_
  unfold ac_ref04_Gear zo
  simp only [argsT,Nat.zero_add,Nat.reduceAdd]
  repeat (first|(with_reducible first|apply X1|apply X2|apply X6|apply X8)|((with_reducible apply e_end);(simp;exact Rz))|((with_reducible apply O1);rfl;(simp (disch:=omega);exact Rz);exact Rz;(focus (first|(simp;done)|omega|(simp;omega)))))
  refine e_loop (ι:={ i:Nat // i≤g.ls.length∧∀ j,j<i→ldB B (lAt g.ls j) }) (fun i=>[(2,.ptr H.length 0),(3,.ptr (H.length+1) 0),(5,.int .i64 i.1)]) (fun _=>H++[.cells [.slice id off B.length 7 ex2] true,.cells [lv,.int .i64 g.added,.int .i64 g.base,.int .i64 g.jit,rv,kv,.int .i64 g.spread,.bool g.stamp] true]) (fun i=>g.ls.length-i.1) ⟨0,by simp⟩ ?_ ?_
  · exact .inl (by simp)
  · rintro⟨i,hi,hgd⟩
    dsimp only
    repeat (first|(with_reducible first|apply X1|apply X2)|((with_reducible apply O1);rfl;(simp (disch:=omega);exact Rz);exact Rz;(focus (first|(simp;done)|omega|(simp;omega)))))
    refine O1 rfl (RAt.len hg.l _ (by simp)) Rz trivial ?_
    by_cases hlt:i<g.ls.length
    · have hlt2:(i:Int)<g.ls.length:=by omega
      obtain⟨lid,loff,lex,rfl,hll,hx0,hx1⟩:=hlr i hlt
      have hm0:i * 2+2≤g.ls.length * 2:=by omega
      repeat (first|(with_reducible first|apply X1|apply X5|apply X6|apply X8|apply Y9)|((with_reducible apply e_end);(simp;exact Rz))|((first|((with_reducible apply O1);rfl)|((with_reducible apply P1);rfl)|((with_reducible apply P2);rfl));(simp (disch:=omega) [hlt,hlt2,rd_old _ hll,hx0];exact Rz);exact Rz;(focus (first|(simp;done)|omega|(simp;omega))))|((with_reducible apply Z9);(simp (disch:=omega) [hlt,hlt2,rd_old _ hll,hx0];exact Rz)))
      (with_reducible apply d_call);(simp;exact Rz);exact c_r4At _ B _ _ _ (hB.app _) hn _;(focus (first|(simp;done)|(simp;omega)))
      cases hw:whB B (lAt g.ls i).id B.length with
      | none =>
        have e:whV B (lAt g.ls i).id=-1:=by simp only [whV,hw]
        rw [e]
        repeat (first|(with_reducible first|apply X1|apply X2|apply X3|apply X8|apply X9|apply Y3|apply Y5|apply Y9)|((with_reducible first|apply e_end|apply d_end);(simp;exact Rz))|((first|((with_reducible apply O1);rfl)|((with_reducible apply P1);rfl));(simp (disch:=omega);exact Rz);exact Rz;(focus (first|(simp;done)|omega|(simp;omega))))|((with_reducible apply Z9);(simp (disch:=omega);exact Rz))|((with_reducible apply Z6);(simp (disch:=omega);exact Rz)))
        refine q_drop (.inr rfl) (by simp;exact Rz) (by simp) ⟨hno fun h=>by
          obtain⟨j,hj,he,_⟩:=h.ld i hlt
          exact (whB_none.1 hw) j hj he,rfl⟩
      | some k =>
        have e:whV B (lAt g.ls i).id=k:=by simp only [whV,hw]
        have hk:=whB_some hw
        have hkr:=hB.row hk.1
        have hk1:rd H id (off+k * 7+1) 1=some [.int .i64 (bAt B k).s.step]:=by have:=rd_sub' hkr 1 1 (by omega);simpa [SP.av,Sc.av] using this
        have hm1:k * 7+7≤B.length * 7:=by omega
        have hk2:(k:Int)<B.length:=by omega
        have hk3:¬ (k:Int)<0:=by omega
        have hst:=(hok k hk.1).2.b.2.1
        obtain⟨b1,h1⟩:=bof ((bAt B k).s.can (lAt g.ls i).n)
        rw [e]
        repeat (first|(with_reducible first|apply X1|apply X8|apply Y9)|((with_reducible apply d_end);(simp;exact Rz))|((first|((with_reducible apply P1);rfl)|((with_reducible apply P2);rfl));(simp (disch:=omega) [hlt,hlt2,rd_old _ hll,hx1,hk3,hk2,hk.1,rd_old _ hrl,hk1];exact Rz);exact Rz;(focus (first|(simp;done)|omega|(simp;omega))))|((with_reducible apply Z8);(simp (disch:=omega) [hlt,hlt2,rd_old _ hll,hx1,hk3,hk2,hk.1,rd_old _ hrl,hk1];exact Rz)))
        (with_reducible apply d_call);(simp;exact Rz);exact c_r4shown _ (bAt B k).s _ hst h1;(focus (first|(simp;done)|(simp;omega)))
        cases b1 with
        | false =>
          repeat (first|(with_reducible first|apply X1|apply X2|apply X3|apply X8|apply X9|apply Y3|apply Y5)|((with_reducible first|apply e_end|apply d_end);(simp;exact Rz))|((first|((with_reducible apply O1);rfl)|((with_reducible apply P1);rfl));(simp (disch:=omega);exact Rz);exact Rz;(focus (first|(simp;done)|omega|(simp;omega))))|((with_reducible first|apply Z8|apply Z9);(simp (disch:=omega);exact Rz)))
          refine q_drop (.inr rfl) (by simp;exact Rz) (by simp) ⟨hno fun h=>by
            obtain⟨j,hj,he,hc⟩:=h.ld i hlt
            have:j=k:=by
              rcases Nat.lt_trichotomy j k with h4|h4|h4
              · have:=okB_lt hok h4 hk.1;have:=hk.2;omega
              · exact h4
              · have:=okB_lt hok h4 hj;have:=hk.2;omega
            subst this
            exact absurd (h1.2 hc) (by decide),rfl⟩
        | true =>
          repeat (first|(with_reducible first|apply X2|apply X5|apply X8|apply Y2)|((with_reducible first|apply e_end|apply d_end);(simp;exact Rz))|((first|((with_reducible apply O1);rfl)|((with_reducible apply P1);rfl));(simp (disch:=omega);exact Rz);exact Rz;(focus (first|(simp;done)|omega|(simp;omega))))|((with_reducible apply Z8);(simp (disch:=omega);exact Rz))|((with_reducible apply W3);(simp (disch:=omega);exact Rz)))
          refine q_again ⟨i+1,hlt,fun j hj=>?_⟩ (by dsimp only;omega) (.inl (by simp))
          rcases Nat.lt_or_ge j i with h|h
          · exact hgd j h
          · have:j=i:=by omega
            subst this;exact⟨k,hk.1,hk.2,h1.1 rfl⟩
    · have hlt2:¬ (i:Int)<g.ls.length:=by omega
      obtain rfl:i=g.ls.length:=by omega
      repeat (first|(with_reducible first|apply X1|apply X2|apply X4|apply X8|apply Y1|apply Y4|apply Y6)|((with_reducible apply e_end);(simp;exact Rz))|((with_reducible apply O1);rfl;(simp (disch:=omega) [hlt,hlt2];exact Rz);exact Rz;(focus (first|(simp;done)|omega|(simp;omega))))|((with_reducible apply W3);(simp (disch:=omega) [hlt,hlt2];exact Rz)))
      refine O1 rfl (RAt.len hg.l _ (by simp)) Rz trivial ?_
      by_cases h6:g.ls.length≤6
      · have h62:(g.ls.length:Int)≤6:=by omega
        repeat (first|((with_reducible apply O1);rfl;(simp (disch:=omega) [h6,h62];exact Rz);exact Rz;(focus (first|(simp;done)|omega|(simp;omega))))|((with_reducible apply Z7);(simp (disch:=omega) [h6,h62];exact Rz)))
        (with_reducible apply e_call);(simp;exact Rz);exact ki _
        rintro _ _ ⟨rfl,rfl⟩
        repeat (first|(with_reducible first|apply X3|apply X8)|((with_reducible apply e_end);(simp;exact Rz))|((with_reducible apply O1);rfl;(simp (disch:=omega);exact Rz);exact Rz;(focus (first|(simp;done)|omega|(simp;omega)))))
        refine q_drop (.inr rfl) (by simp;exact Rz) (by simp) ⟨by rw [AV.bool.injEq,Bool.eq_iff_iff,hb,hbi];exact⟨fun h=>⟨h6,hgd,h⟩,fun h=>h.ba⟩,rfl⟩
      · have h62:¬ (g.ls.length:Int)≤6:=by omega
        repeat (first|(with_reducible first|apply X3|apply X8)|((with_reducible apply e_end);(simp;exact Rz))|((with_reducible apply O1);rfl;(simp (disch:=omega) [h6,h62];exact Rz);exact Rz;(focus (first|(simp;done)|omega|(simp;omega))))|((with_reducible apply Z1);(simp (disch:=omega) [h6,h62];exact Rz)))
        refine q_drop (.inr rfl) (by simp;exact Rz) (by simp) ⟨hno fun h=>h6 h.len,rfl⟩
theorem c_r4Check (H:Heap) (B:List SP) (id off:Nat) (ex2:Bool) (hB:BayAt H id off B) (hn:(B.length:Int)<1000000) (g:Gr) (lv rv kv:AV) (hg:GAt H g lv rv kv) :
    ACalls Try.prog F.ref04_Check [.agg [.slice id off B.length 7 ex2],.agg (g.av lv rv kv)] H (fun v h'=>v=.int .i64 (chE B g)∧h'=H):=by
  have hrl:=rd_lt hB.rows
  have sl:∀ m,lv.sc (H.length+m)=true:=fun m=>RAt.sc hg.l (by omega)
  have sr:∀ m,rv.sc (H.length+m)=true:=fun m=>RAt.sc hg.r (by omega)
  have sk:∀ m,kv.sc (H.length+m)=true:=fun m=>RAt.sc hg.k (by omega)
  have sl0:=sl 0
  have sr0:=sr 0
  have sk0:=sk 0
  rw [Nat.add_zero] at sl0 sr0 sk0
  obtain⟨b1,h1⟩:=bof (okB B∧B.length≤4)
  obtain⟨b2,h2⟩:=bof (okG B g)
  have kg:=fun X hok=>c_r4Gear (H++X) B id off ex2 (hB.app X) hok hn g lv rv kv (hg.app X) h2
  simp only [Gr.av] at kg ⊢
  refine acalls_of ok_ref04_Check rfl fun hcl=>?_
  unfold ac_ref04_Check zo
  simp only [argsT,Nat.zero_add,Nat.reduceAdd]
  repeat (first|(with_reducible first|apply X1|apply X2|apply X8)|((with_reducible apply e_end);(simp;exact Rz))|((with_reducible apply O1);rfl;(simp (disch:=omega);exact Rz);exact Rz;(focus (first|(simp;done)|omega|(simp;omega)))))
  (with_reducible apply e_call);(simp;exact Rz);exact c_r4Bay _ B _ _ _ (hB.app _) hn h1
  rintro _ _ ⟨rfl,rfl⟩
  cases b1 with
  | false =>
    have e:chE B g=40:=by simp only [chE];rw [if_neg (fun h=>absurd (h1.2 h) (by decide))]
    repeat (first|(with_reducible first|apply X1|apply X2|apply X3|apply X8|apply X9)|((with_reducible apply e_end);(simp;exact Rz))|((with_reducible apply O1);rfl;(simp (disch:=omega);exact Rz);exact Rz;(focus (first|(simp;done)|omega|(simp;omega))))|((with_reducible apply Z9);(simp (disch:=omega);exact Rz)))
    refine q_drop (.inr rfl) (by simp;exact Rz) (by simp) ⟨by rw [e],rfl⟩
  | true =>
    repeat (first|(with_reducible first|apply X1|apply X2|apply X5|apply X8)|((with_reducible apply e_end);(simp;exact Rz))|((with_reducible apply O1);rfl;(simp (disch:=omega);exact Rz);exact Rz;(focus (first|(simp;done)|omega|(simp;omega))))|((with_reducible apply W3);(simp (disch:=omega);exact Rz)))
    (with_reducible apply e_call);(simp;exact Rz);exact kg _ (h1.1 rfl).1
    rintro _ _ ⟨rfl,rfl⟩
    cases b2 with
    | false =>
      have e:chE B g=41:=by simp only [chE];rw [if_pos (h1.1 rfl),if_neg (fun h=>absurd (h2.2 h) (by decide))]
      repeat (first|(with_reducible first|apply X1|apply X2|apply X3|apply X8|apply X9)|((with_reducible apply e_end);(simp;exact Rz))|((with_reducible apply O1);rfl;(simp (disch:=omega);exact Rz);exact Rz;(focus (first|(simp;done)|omega|(simp;omega))))|((with_reducible apply Z9);(simp (disch:=omega);exact Rz)))
      refine q_drop (.inr rfl) (by simp;exact Rz) (by simp) ⟨by rw [e],rfl⟩
    | true =>
      have e:chE B g=0:=by simp only [chE];rw [if_pos (h1.1 rfl),if_pos (h2.1 rfl)]
      repeat (first|(with_reducible first|apply X1|apply X2|apply X3|apply X5|apply X8)|((with_reducible apply e_end);(simp;exact Rz))|((with_reducible apply O1);rfl;(simp (disch:=omega);exact Rz);exact Rz;(focus (first|(simp;done)|omega|(simp;omega))))|((with_reducible apply W3);(simp (disch:=omega);exact Rz)))
      refine q_drop (.inr rfl) (by simp;exact Rz) (by simp) ⟨by rw [e],rfl⟩
end Go.Proofs
/- Scale: Great,by the reference. -/
namespace Go.Proofs
open Go.Abs
attribute [local simp] AOp.den AOpd.ev lk cellsOf rd_new rd_new0 rd_zero rd_succ wr_new wr_new0 wr_zero wr_succ splice fillA binA scal sliceCells List.length_append argsT AV.sc scL AObj.sc resV getAll AR.get AOp.slots opdSlots opdsSlots partSlots eqAt at_new0 at_new set_new0 set_new wrap64
set_option linter.unusedSimpArgs false
set_option linter.unusedVariables false
def grt (B:List SP) (g:Gr):Prop:=8<B.length∨10<g.ls.length∨12<g.rs.length∨12<g.ks.length∨∃ i,i<B.length∧10<(bAt B i).s.ts.length
set_option maxHeartbeats 2000000 in
theorem c_r4Great (H:Heap) (B:List SP) (id off:Nat) (ex2:Bool) (hB:rd H id off (B.length * 7)=some (B.flatMap SP.av)) (g:Gr) (lv rv kv:AV) (hl:LdAt H lv g.ls) (hr:IAt H rv g.rs) (hk:IAt H kv g.ks) {b:Bool} (hb:b=true↔grt B g) :
    ACalls Try.prog F.ref04_Great [.agg [.slice id off B.length 7 ex2],.agg (g.av lv rv kv)] H (fun v h'=>v=.bool b∧h'=H):=by
  have hyes:grt B g→AV.bool true=.bool b:=fun h=>by rw [AV.bool.injEq];exact (hb.2 h).symm
  have hrl:=rd_lt hB
  have sl:∀ m,lv.sc (H.length+m)=true:=fun m=>RAt.sc hl (by omega)
  have sr:∀ m,rv.sc (H.length+m)=true:=fun m=>RAt.sc hr (by omega)
  have sk:∀ m,kv.sc (H.length+m)=true:=fun m=>RAt.sc hk (by omega)
  have sl0:=sl 0
  have sr0:=sr 0
  have sk0:=sk 0
  rw [Nat.add_zero] at sl0 sr0 sk0
  simp only [Gr.av]
  refine acalls_of ok_ref04_Great rfl fun hcl=>?_
  unfold ac_ref04_Great zo
  simp only [argsT,Nat.zero_add,Nat.reduceAdd]
  repeat (first|(with_reducible first|apply X1|apply X2|apply X8)|((with_reducible apply e_end);(simp;exact Rz))|((with_reducible apply O1);rfl;(simp (disch:=omega);exact Rz);exact Rz;(focus (first|(simp;done)|omega|(simp;omega)))))
  by_cases h1:8<B.length
  · have h1':(8:Int)<B.length:=by omega
    repeat (first|(with_reducible first|apply X1|apply X2|apply X3|apply X8|apply X9)|((with_reducible apply e_end);(simp;exact Rz))|((with_reducible apply O1);rfl;(simp (disch:=omega) [h1,h1'];exact Rz);exact Rz;(focus (first|(simp;done)|omega|(simp;omega))))|((with_reducible apply Z9);(simp (disch:=omega) [h1,h1'];exact Rz))|((with_reducible apply Z2);(simp (disch:=omega) [h1,h1'];exact Rz)))
    refine q_drop (.inr rfl) (by simp;exact Rz) (by simp) ⟨hyes (.inl h1),rfl⟩
  have h1':¬ (8:Int)<B.length:=by omega
  repeat (first|((with_reducible apply O1);rfl;(simp (disch:=omega) [h1,h1'];exact Rz);exact Rz;(focus (first|(simp;done)|omega|(simp;omega))))|((with_reducible apply Z7);(simp (disch:=omega) [h1,h1'];exact Rz)))
  refine O1 rfl (RAt.len hl _ (by simp)) Rz trivial ?_
  by_cases h2:10<g.ls.length
  · have h2':(10:Int)<g.ls.length:=by omega
    repeat (first|(with_reducible first|apply X1|apply X2|apply X3|apply X8|apply X9)|((with_reducible apply e_end);(simp;exact Rz))|((with_reducible apply O1);rfl;(simp (disch:=omega) [h1,h1',h2,h2'];exact Rz);exact Rz;(focus (first|(simp;done)|omega|(simp;omega))))|((with_reducible first|apply Z7|apply Z9);(simp (disch:=omega) [h1,h1',h2,h2'];exact Rz))|((with_reducible apply Z2);(simp (disch:=omega) [h1,h1',h2,h2'];exact Rz)))
    refine q_drop (.inr rfl) (by simp;exact Rz) (by simp) ⟨hyes (.inr (.inl h2)),rfl⟩
  have h2':¬ (10:Int)<g.ls.length:=by omega
  repeat (first|((with_reducible apply O1);rfl;(simp (disch:=omega) [h1,h1',h2,h2'];exact Rz);exact Rz;(focus (first|(simp;done)|omega|(simp;omega))))|((with_reducible apply Z7);(simp (disch:=omega) [h1,h1',h2,h2'];exact Rz)))
  refine O1 rfl (RAt.len hr _ (by simp)) Rz trivial ?_
  by_cases h3:12<g.rs.length
  · have h3':(12:Int)<g.rs.length:=by omega
    repeat (first|(with_reducible first|apply X1|apply X2|apply X3|apply X8|apply X9)|((with_reducible apply e_end);(simp;exact Rz))|((with_reducible apply O1);rfl;(simp (disch:=omega) [h1,h1',h2,h2',h3,h3'];exact Rz);exact Rz;(focus (first|(simp;done)|omega|(simp;omega))))|((with_reducible first|apply Z7|apply Z9);(simp (disch:=omega) [h1,h1',h2,h2',h3,h3'];exact Rz))|((with_reducible apply Z2);(simp (disch:=omega) [h1,h1',h2,h2',h3,h3'];exact Rz)))
    refine q_drop (.inr rfl) (by simp;exact Rz) (by simp) ⟨hyes (.inr (.inr (.inl h3))),rfl⟩
  have h3':¬ (12:Int)<g.rs.length:=by omega
  repeat (first|((with_reducible apply O1);rfl;(simp (disch:=omega) [h1,h1',h2,h2',h3,h3'];exact Rz);exact Rz;(focus (first|(simp;done)|omega|(simp;omega))))|((with_reducible apply Z7);(simp (disch:=omega) [h1,h1',h2,h2',h3,h3'];exact Rz)))
  refine O1 rfl (RAt.len hk _ (by simp)) Rz trivial ?_
  by_cases h4:12<g.ks.length
  · have h4':(12:Int)<g.ks.length:=by omega
    repeat (first|(with_reducible first|apply X1|apply X2|apply X3|apply X8|apply X9)|((with_reducible apply e_end);(simp;exact Rz))|((with_reducible apply O1);rfl;(simp (disch:=omega) [h1,h1',h2,h2',h3,h3',h4,h4'];exact Rz);exact Rz;(focus (first|(simp;done)|omega|(simp;omega))))|((with_reducible first|apply Z7|apply Z9);(simp (disch:=omega) [h1,h1',h2,h2',h3,h3',h4,h4'];exact Rz)))
    refine q_drop (.inr rfl) (by simp;exact Rz) (by simp) ⟨hyes (.inr (.inr (.inr (.inl h4)))),rfl⟩
  have h4':¬ (12:Int)<g.ks.length:=by omega
  repeat (first|(with_reducible first|apply X1|apply X2|apply X5|apply X6|apply X8)|((with_reducible apply e_end);(simp;exact Rz))|((with_reducible apply O1);rfl;(simp (disch:=omega) [h1,h1',h2,h2',h3,h3',h4,h4'];exact Rz);exact Rz;(focus (first|(simp;done)|omega|(simp;omega))))|((with_reducible apply Z7);(simp (disch:=omega) [h1,h1',h2,h2',h3,h3',h4,h4'];exact Rz))|((with_reducible apply W3);(simp (disch:=omega) [h1,h1',h2,h2',h3,h3',h4,h4'];exact Rz)))
  refine e_loop (ι:={ i:Nat // i≤B.length∧∀ j,j<i→¬ 10<(bAt B j).s.ts.length }) (fun i=>[(2,.ptr H.length 0),(5,.int .i64 i.1)]) (fun _=>H++[.cells [.slice id off B.length 7 ex2] true,.cells [lv,.int .i64 g.added,.int .i64 g.base,.int .i64 g.jit,rv,kv,.int .i64 g.spread,.bool g.stamp] true]) (fun i=>B.length-i.1) ⟨0,by simp⟩ ?_ ?_
  · exact .inl (by simp)
  · rintro⟨i,hi,hg⟩
    dsimp only
    by_cases hlt:i<B.length
    · have hlt2:(i:Int)<B.length:=by omega
      have hrow:=rd_row SP.av_length hB hlt
      rw [← bAt_eq hlt] at hrow
      have hr6:rd H id (off+i * 7+6) 1=some [.slice (bAt B i).tid (bAt B i).toff (bAt B i).s.ts.length 2 (bAt B i).ex]:=by have:=rd_sub' hrow 6 1 (by omega);simpa [SP.av,Sc.av] using this
      have hm0:i * 7+7≤B.length * 7:=by omega
      by_cases h5:10<(bAt B i).s.ts.length
      · have h5':(10:Int)<(bAt B i).s.ts.length:=by omega
        repeat (first|(with_reducible first|apply X1|apply X2|apply X3|apply X5|apply X6|apply X8|apply X9|apply Y3|apply Y5)|((with_reducible apply e_end);(simp;exact Rz))|((with_reducible apply O1);rfl;(simp (disch:=omega) [hlt,hlt2,rd_old _ hrl,hr6,h5,h5'];exact Rz);exact Rz;(focus (first|(simp;done)|omega|(simp;omega))))|((with_reducible apply Z9);(simp (disch:=omega) [hlt,hlt2,rd_old _ hrl,hr6,h5,h5'];exact Rz)))
        refine q_drop (.inr rfl) (by simp;exact Rz) (by simp) ⟨hyes (.inr (.inr (.inr (.inr ⟨i,hlt,h5⟩)))),rfl⟩
      · have h5':¬ (10:Int)<(bAt B i).s.ts.length:=by omega
        repeat (first|(with_reducible first|apply X1|apply X2|apply X5|apply X6|apply X8|apply Y2)|((with_reducible apply e_end);(simp;exact Rz))|((with_reducible apply O1);rfl;(simp (disch:=omega) [hlt,hlt2,rd_old _ hrl,hr6,h5,h5'];exact Rz);exact Rz;(focus (first|(simp;done)|omega|(simp;omega))))|((with_reducible apply Z9);(simp (disch:=omega) [hlt,hlt2,rd_old _ hrl,hr6,h5,h5'];exact Rz))|((with_reducible apply W3);(simp (disch:=omega) [hlt,hlt2,rd_old _ hrl,hr6,h5,h5'];exact Rz)))
        refine q_again ⟨i+1,hlt,fun j hj=>?_⟩ (by dsimp only;omega) (.inl (by simp))
        rcases Nat.lt_or_ge j i with h|h
        · exact hg j h
        · have:j=i:=by omega
          subst this;exact h5
    · have hlt2:¬ (i:Int)<B.length:=by omega
      obtain rfl:i=B.length:=by omega
      have hno:¬ grt B g:=by
        rintro (h|h|h|h|⟨i,h,h'⟩)
        · exact h1 h
        · exact h2 h
        · exact h3 h
        · exact h4 h
        · exact hg i h h'
      repeat (first|(with_reducible first|apply X1|apply X2|apply X3|apply X4|apply X8|apply Y1|apply Y4|apply Y6)|((with_reducible apply e_end);(simp;exact Rz))|((with_reducible apply O1);rfl;(simp (disch:=omega) [hlt2];exact Rz);exact Rz;(focus (first|(simp;done)|omega|(simp;omega))))|((with_reducible apply W3);(simp (disch:=omega) [hlt2];exact Rz)))
      refine q_drop (.inr rfl) (by simp;exact Rz) (by simp) ⟨by rw [AV.bool.injEq];cases b;rfl;exact absurd (hb.1 rfl) hno,rfl⟩
theorem c_r4Tunes (H:Heap) (s:Sc) (tid toff:Nat) (ex:Bool) (ht:rd H tid toff (s.ts.length * 2)=some (s.ts.flatMap Ti.av)) (hn:(s.ts.length:Int)<1000000) :
    ACalls Try.prog F.ref04_Tunes [.agg (s.av tid toff ex)] H (fun v h'=>∃ lv G,h'=H++G∧v=.tuple [lv,.int .i64 (tunE s)]∧AAt h' 3 lv (tunL s (tunS s)) (tunS s).length):=by
  have htl:=rd_lt ht
  obtain⟨b,hb⟩:=bof s.ok
  have kr:=fun X=>c_r4Scale (H++X) s tid toff ex (by rw [rd_old _ htl];exact ht) hn hb
  have kt:=fun X hs=>c_r4tunes (H++X) s tid toff ex (by rw [rd_old _ htl];exact ht) hs
  simp only [Sc.av] at kr kt ⊢
  refine acalls_of ok_ref04_Tunes rfl fun hcl=>?_
  unfold ac_ref04_Tunes zo
  simp only [argsT,Nat.zero_add,Nat.reduceAdd]
  repeat (first|(with_reducible first|apply X1|apply X2|apply X8)|((with_reducible apply e_end);(simp;exact Rz))|((with_reducible apply O1);rfl;(simp (disch:=omega);exact Rz);exact Rz;(focus (first|(simp;done)|omega|(simp;omega)))))
  (with_reducible apply e_call);(simp;exact Rz);exact kr _
  rintro _ _ ⟨rfl,rfl⟩
  cases b with
  | false =>
    have hno:¬ s.ok:=fun h=>absurd (hb.2 h) (by decide)
    repeat (first|(with_reducible first|apply X1|apply X2|apply X3|apply X8|apply X9)|((with_reducible apply e_end);(simp;exact Rz))|((with_reducible apply O1);rfl;(simp (disch:=omega);exact Rz);exact Rz;(focus (first|(simp;done)|omega|(simp;omega))))|((with_reducible apply Z9);(simp (disch:=omega);exact Rz)))
    refine q_drop (.inr rfl) (by simp;exact Rz) (by simp) ⟨.nilslice,[],(List.append_nil _).symm,by simp [tunE,hno],by simp only [tunS,hno,if_false];exact AAt.nil _ _⟩
  | true =>
    have hs:=hb.1 rfl
    have eS:tunS s=TG s s.gs:=by simp [tunS,hs]
    have eE:tunE s=if TG s s.gs=[] then 6 else 0:=by simp [tunE,hs]
    repeat (first|(with_reducible first|apply X1|apply X2|apply X5|apply X8)|((with_reducible apply e_end);(simp;exact Rz))|((with_reducible apply O1);rfl;(simp (disch:=omega);exact Rz);exact Rz;(focus (first|(simp;done)|omega|(simp;omega))))|((with_reducible apply W3);(simp (disch:=omega);exact Rz)))
    (with_reducible apply e_call);(simp;exact Rz);exact kt _ hs
    rintro v _ ⟨G,rfl,hA⟩
    rw [eS,eE]
    simp only [List.append_assoc,List.cons_append,List.nil_append] at hA ⊢
    have sv:=hA.l.sc (Nat.le_refl _)
    repeat (first|(with_reducible first|apply X1|apply X2|apply X8)|((with_reducible apply e_end);(simp;exact Rz))|((with_reducible apply O1);rfl;(simp (disch:=omega);exact Rz);exact Rz;(focus (first|(simp;done)|omega|(simp;omega)))))
    refine O1 rfl (RAt.len hA.l.r _ (by simp)) Rz trivial ?_
    by_cases h0:(TG s s.gs).length=0
    · have h1:TG s s.gs=[]:=List.eq_nil_of_length_eq_zero h0
      repeat (first|(with_reducible first|apply X1|apply X2|apply X3|apply X8|apply X9)|((with_reducible apply e_end);(simp;exact Rz))|((with_reducible apply O1);rfl;(simp (disch:=omega) [h0];exact Rz);exact Rz;(focus (first|(simp;done)|omega|(simp;omega))))|((with_reducible apply Z9);(simp (disch:=omega) [h0];exact Rz)))
      refine q_drop (.inr rfl) (by simp;exact Rz) (by simp) ⟨.nilslice,[],(List.append_nil _).symm,by simp [h1],by rw [h1];exact AAt.nil _ _⟩
    · have h1:¬ TG s s.gs=[]:=fun h=>h0 (by rw [h];rfl)
      repeat (first|(with_reducible first|apply X1|apply X2|apply X3|apply X5|apply X8)|((with_reducible apply e_end);(simp;exact Rz))|((with_reducible apply O1);rfl;(simp (disch:=omega) [h0];exact Rz);exact Rz;(focus (first|(simp;done)|omega|(simp;omega))))|((with_reducible apply W3);(simp (disch:=omega) [h0];exact Rz)))
      exact q_stay (.inr rfl) (by simp;exact Rz) ⟨_,_,rfl,by simp [h1],hA⟩
theorem c_r4SameTunes (H:Heap) (a c:AV) (s:Sc) (L:List Nat) (ha:AAt H 3 a (tunL s L) L.length) (hc:AAt H 3 c (tunL s L) L.length) (hn:(L.length:Int)<1000000) :
    ACalls Try.prog F.ref04_SameTunes [a,c] H (fun v h'=>v=.bool true∧h'=H):=by
  have sa:=ha.l.sc (Nat.le_refl _)
  have sc:=hc.l.sc (Nat.le_refl _)
  have row:∀ {v},AAt H 3 v (tunL s L) L.length→∀ i,i<L.length→∃ id,v=.slice id 0 L.length 3 false∧rd H id (i * 3) 3=some (tunV s (L.getD i 0)):=fun hv i hi=>by
    obtain⟨h1,⟨_,h⟩|⟨q,_,e,hh⟩⟩:=hv
    · omega
    · have:=rd_row (f:=tunV s) (k:=3) (fun _=>rfl) (H:=H) (id:=q) (off:=0) (l:=L) (rd_full hh h1) hi
      rw [Nat.zero_add] at this
      exact⟨q,e,by rw [this];simp [hi]⟩
  refine acalls_of ok_ref04_SameTunes rfl fun hcl=>?_
  unfold ac_ref04_SameTunes zo
  simp only [argsT,Nat.zero_add,Nat.reduceAdd]
  repeat (first|(with_reducible first|apply X1|apply X2|apply X8)|((with_reducible apply e_end);(simp;exact Rz))|((with_reducible apply O1);rfl;(simp (disch:=omega);exact Rz);exact Rz;(focus (first|(simp;done)|omega|(simp;omega)))))
  refine O1 rfl (RAt.len ha.l.r _ (by simp)) Rz trivial ?_
  repeat ((with_reducible apply O1);rfl;(simp (disch:=omega);exact Rz);exact Rz;(focus (first|(simp;done)|omega|(simp;omega))))
  refine O1 rfl (RAt.len hc.l.r _ (by simp)) Rz trivial ?_
  repeat (first|(with_reducible first|apply X1|apply X2|apply X5|apply X6|apply X8)|((with_reducible apply e_end);(simp;exact Rz))|((with_reducible apply O1);rfl;(simp (disch:=omega);exact Rz);exact Rz;(focus (first|(simp;done)|omega|(simp;omega))))|((with_reducible apply W3);(simp (disch:=omega);exact Rz)))
  refine e_loop (ι:={ i:Nat // i≤L.length }) (fun i=>[(0,a),(1,c),(5,.int .i64 i.1)]) (fun _=>H) (fun i=>L.length-i.1) ⟨0,by simp⟩ ?_ ?_
  · exact .inl (by simp)
  · rintro⟨i,hi⟩
    dsimp only
    repeat (first|(with_reducible first|apply X1|apply X2)|((with_reducible apply O1);rfl;(simp (disch:=omega);exact Rz);exact Rz;(focus (first|(simp;done)|omega|(simp;omega)))))
    refine O1 rfl (RAt.len ha.l.r _ (by simp)) Rz trivial ?_
    by_cases hlt:i<L.length
    · have hlt2:(i:Int)<L.length:=by omega
      obtain⟨q1,rfl,hr1⟩:=row ha i hlt
      obtain⟨q2,rfl,hr2⟩:=row hc i hlt
      have hm0:i * 3+3≤L.length * 3:=by omega
      simp only [tunV] at hr1 hr2
      repeat (first|(with_reducible first|apply X1|apply X2|apply X5|apply X6|apply X8|apply Y2|apply Y9)|((with_reducible first|apply e_end|apply d_end);(simp;exact Rz))|((first|((with_reducible apply O1);rfl)|((with_reducible apply P1);rfl)|((with_reducible apply P2);rfl));(simp (disch:=omega) [hlt,hlt2,hr1,hr2];exact Rz);exact Rz;(focus (first|(simp;done)|omega|(simp;omega))))|((with_reducible apply Z9);(simp (disch:=omega) [hlt,hlt2,hr1,hr2];exact Rz))|((with_reducible apply W3);(simp (disch:=omega) [hlt,hlt2,hr1,hr2];exact Rz)))
      exact q_again ⟨i+1,hlt⟩ (by dsimp only;omega) (.inl (by simp))
    · have hlt2:¬ (i:Int)<L.length:=by omega
      obtain rfl:i=L.length:=by omega
      repeat (first|(with_reducible first|apply X1|apply X2|apply X3|apply X4|apply X8|apply Y1|apply Y4|apply Y6)|((with_reducible apply e_end);(simp;exact Rz))|((with_reducible apply O1);rfl;(simp (disch:=omega) [hlt,hlt2];exact Rz);exact Rz;(focus (first|(simp;done)|omega|(simp;omega))))|((with_reducible apply W3);(simp (disch:=omega) [hlt,hlt2];exact Rz)))
      refine q_drop0 (.inr rfl) (by simp;exact Rz) (by simp) ⟨rfl,rfl⟩
set_option maxHeartbeats 4000000 in
theorem c_r4SameBay (H:Heap) (B C:List SP) (id off id2 off2:Nat) (ex1 ex2:Bool) (hB:BayAt H id off B) (hC:BayAt H id2 off2 C) (hl:C.length=B.length) (hn:(B.length:Int)<1000000) (he:∀ i,i<B.length→(bAt C i).s=(bAt B i).s) :
    ACalls Try.prog F.ref04_SameBay [.agg [.slice id off B.length 7 ex1],.agg [.slice id2 off2 B.length 7 ex2]] H (fun v h'=>v=.bool true∧h'=H):=by
  have hrl:=rd_lt hB.rows
  have hrl2:=rd_lt hC.rows
  refine acalls_of ok_ref04_SameBay rfl fun hcl=>?_
  unfold ac_ref04_SameBay zo
  simp only [argsT,Nat.zero_add,Nat.reduceAdd]
  repeat (first|(with_reducible first|apply X1|apply X2|apply X5|apply X6|apply X8)|((with_reducible apply e_end);(simp;exact Rz))|((with_reducible apply O1);rfl;(simp (disch:=omega);exact Rz);exact Rz;(focus (first|(simp;done)|omega|(simp;omega))))|((with_reducible apply W3);(simp (disch:=omega);exact Rz)))
  refine e_loop (ι:={ x:Nat × Heap // x.1≤B.length }) (fun x=>[(2,.ptr H.length 0),(3,.ptr (H.length+1) 0),(5,.int .i64 x.1.1)]) (fun x=>H++.cells [.slice id off B.length 7 ex1] true :: .cells [.slice id2 off2 B.length 7 ex2] true :: x.1.2) (fun x=>B.length-x.1.1) ⟨(0,[]),by simp⟩ ?_ ?_
  · exact .inl (by simp)
  · rintro⟨⟨i,G⟩,hi⟩
    dsimp only at hi ⊢
    by_cases hlt:i<B.length
    · have hlt2:(i:Int)<B.length:=by omega
      have hr1:=hB.row hlt
      have hr2:=hC.row (i:=i) (by omega)
      have ht1:=hB.trs _ (bAt_mem hlt)
      have ht2:=hC.trs _ (bAt_mem (B:=C) (i:=i) (by omega))
      have hs:=he i hlt
      have hm0:i * 7+7≤B.length * 7:=by omega
      have htl1:=rd_lt ht1.1
      have htl2:=rd_lt ht2.1
      have hr3:rd H id2 (off2+i * 7) 7=some ((bAt B i).s.av (bAt C i).tid (bAt C i).toff (bAt C i).ex):=by rw [hr2,SP.av,hs]
      have ht3:rd H (bAt C i).tid (bAt C i).toff ((bAt B i).s.ts.length * 2)=some ((bAt B i).s.ts.flatMap Ti.av):=by rw [← hs];exact ht2.1
      have htn:=ht1.2
      simp only [SP.av,Sc.av] at hr1 hr3
      repeat (first|(with_reducible first|apply X1|apply X2|apply X5|apply X6|apply X8|apply Y9)|((with_reducible apply e_end);(simp;exact Rz))|((first|((with_reducible apply O1);rfl)|((with_reducible apply P1);rfl)|((with_reducible apply P2);rfl)|((with_reducible apply P3);rfl));(simp (disch:=omega) [hlt,hlt2,rd_old _ hrl,hr1,rd_old _ hrl2,hr3];exact Rz);exact Rz;(focus (first|(simp;done)|omega|(simp;omega))))|((with_reducible apply Z9);(simp (disch:=omega) [hlt,hlt2,rd_old _ hrl,hr1,rd_old _ hrl2,hr3];exact Rz)))
      (with_reducible apply d_do_);rfl;rfl;(simp (disch:=omega) [rd_old _ hrl,hr1,rd_old _ hrl2,hr3];exact Rz);exact Rz
      · (first|(simp;done)|omega|(simp;omega))
      · (first|(simp;done)|omega|(simp;omega))
      · (first|(simp;done)|omega|(simp;omega))
      · simp [recheck,pr,AOp.sem,rd_old _ hrl,hr1,rd_old _ hrl2,hr3]
      simp only [St.put]
      repeat (first|(with_reducible first|apply X1|apply X2|apply X5|apply X6|apply X8)|((with_reducible first|apply e_end|apply d_end);(simp;exact Rz))|((first|((with_reducible apply O1);rfl)|((with_reducible apply P4);rfl));(simp (disch:=omega);exact Rz);exact Rz;(focus (first|(simp;done)|omega|(simp;omega))))|((with_reducible apply Z7);(simp (disch:=omega);exact Rz))|((with_reducible apply W3);(simp (disch:=omega);exact Rz)))
      refine e_loop (ι:={ j:Nat // j≤(bAt B i).s.ts.length }) (fun j=>[(2,.ptr H.length 0),(3,.ptr (H.length+1) 0),(5,.int .i64 i),(6,.ptr (H.length+(G.length+1+1)) 0),(7,.ptr (H.length+(G.length+1+1+1)) 0),(8,.int .i64 j.1)]) (fun _=>H++.cells [.slice id off B.length 7 ex1] true :: .cells [.slice id2 off2 B.length 7 ex2] true :: (G++[.cells [.int .i64 (bAt B i).s.id,.int .i64 (bAt B i).s.step,.int .i64 (bAt B i).s.gLo,.int .i64 (bAt B i).s.gHi,.int .i64 (bAt B i).s.oLo,.int .i64 (bAt B i).s.oHi,.slice (bAt B i).tid (bAt B i).toff (bAt B i).s.ts.length 2 (bAt B i).ex] true,.cells [.int .i64 (bAt B i).s.id,.int .i64 (bAt B i).s.step,.int .i64 (bAt B i).s.gLo,.int .i64 (bAt B i).s.gHi,.int .i64 (bAt B i).s.oLo,.int .i64 (bAt B i).s.oHi,.slice (bAt C i).tid (bAt C i).toff (bAt B i).s.ts.length 2 (bAt C i).ex] true])) (fun j=>(bAt B i).s.ts.length-j.1) ⟨0,by simp⟩ ?_ ?_
      · exact .inl (by simp)
      · rintro⟨j,hj⟩
        dsimp only
        by_cases hjl:j<(bAt B i).s.ts.length
        · have hjl2:(j:Int)<(bAt B i).s.ts.length:=by omega
          have hx1:=rd_row Ti.av_length ht1.1 hjl
          have hx2:=rd_row Ti.av_length ht3 hjl
          simp only [Ti.av] at hx1 hx2
          have hm1:j * 2+2≤(bAt B i).s.ts.length * 2:=by omega
          repeat (first|(with_reducible first|apply X1|apply X2|apply X5|apply X6|apply X8|apply Y2|apply Y9)|((with_reducible first|apply e_end|apply d_end);(simp;exact Rz))|((first|((with_reducible apply O1);rfl)|((with_reducible apply P1);rfl)|((with_reducible apply P2);rfl));(simp (disch:=omega) [hjl,hjl2,rd_old _ htl1,hx1,rd_old _ htl2,hx2];exact Rz);exact Rz;(focus (first|(simp;done)|omega|(simp;omega))))|((with_reducible apply Z9);(simp (disch:=omega) [hjl,hjl2,rd_old _ htl1,hx1,rd_old _ htl2,hx2];exact Rz))|((with_reducible apply W3);(simp (disch:=omega) [hjl,hjl2,rd_old _ htl1,hx1,rd_old _ htl2,hx2];exact Rz)))
          exact q_again ⟨j+1,hjl⟩ (by dsimp only;omega) (.inl (by simp))
        · have hjl2:¬ (j:Int)<(bAt B i).s.ts.length:=by omega
          obtain rfl:j=(bAt B i).s.ts.length:=by omega
          repeat (first|(with_reducible first|apply X1|apply X2|apply X4|apply X8|apply Y1|apply Y2|apply Y4|apply Y6)|((with_reducible apply e_end);(simp;exact Rz))|((with_reducible apply O1);rfl;(simp (disch:=omega) [hjl,hjl2];exact Rz);exact Rz;(focus (first|(simp;done)|omega|(simp;omega))))|((with_reducible apply W3);(simp (disch:=omega) [hjl,hjl2];exact Rz)))
          exact q_again ⟨(i+1,_),hlt⟩ (by dsimp only;omega) (.inl (by simp;rfl))
    · have hlt2:¬ (i:Int)<B.length:=by omega
      obtain rfl:i=B.length:=by omega
      repeat (first|(with_reducible first|apply X1|apply X2|apply X3|apply X4|apply X8|apply Y1|apply Y4|apply Y6)|((with_reducible apply e_end);(simp;exact Rz))|((with_reducible apply O1);rfl;(simp (disch:=omega) [hlt,hlt2];exact Rz);exact Rz;(focus (first|(simp;done)|omega|(simp;omega))))|((with_reducible apply W3);(simp (disch:=omega) [hlt,hlt2];exact Rz)))
      refine q_drop (.inr rfl) (by simp;exact Rz) (by simp) ⟨rfl,rfl⟩
theorem below_pos {n st:Int} (h0:0≤n):n.tdiv st * st=n-n % st:=by
  rw [Int.tdiv_eq_ediv_of_nonneg h0]
  have:=Int.emod_def n st
  have:=Int.mul_comm st (n / st)
  omega
theorem below_neg {n st:Int} (h0:n<0) (hs:1≤st):(-n+st-1).tdiv st * st=-(n-n % st):=by
  rw [Int.tdiv_eq_ediv_of_nonneg (by omega)]
  have e1:=Int.emod_add_mul_ediv n st
  have h1:=Int.emod_nonneg n (show st≠0 by omega)
  have h2:=Int.emod_lt_of_pos n (show 0<st by omega)
  generalize n % st=r at *
  generalize n / st=q at *
  have e2:-n+st-1=(st-1-r)+(-q) * st:=by rw [Int.neg_mul,Int.mul_comm q st];omega
  rw [e2,Int.add_mul_ediv_right _ _ (by omega),Int.ediv_eq_zero_of_lt (by omega) (by omega),Int.zero_add,Int.neg_mul,Int.mul_comm q st]
  omega
theorem c_r4floor (H:Heap) (n:Int) (hn:-100000000000≤n∧n≤100000000000):ACalls Try.prog F.ref04_floor [.int .i64 n] H (fun v h'=>v=.int .i64 (n / 1000)∧h'=H):=by
  refine acalls_of ok_ref04_floor rfl fun hcl=>?_
  unfold ac_ref04_floor zo
  simp only [argsT,Nat.zero_add,Nat.reduceAdd]
  by_cases h0:n<0
  · have e:(-n+999).tdiv 1000=-(n / 1000):=by rw [Int.tdiv_eq_ediv_of_nonneg (by omega)];omega
    repeat (first|(with_reducible first|apply X1|apply X2|apply X3|apply X8|apply X9)|((with_reducible apply e_end);(simp;exact Rz))|((with_reducible apply O1);rfl;(simp (disch:=omega) [h0,e];exact Rz);exact Rz;(focus (first|(simp;done)|omega|(simp;omega))))|((with_reducible apply Z9);(simp (disch:=omega) [h0,e];exact Rz)))
    refine q_drop0 (.inr rfl) (by simp;exact Rz) (by simp) ⟨rfl,rfl⟩
  · have e:n.tdiv 1000=n / 1000:=Int.tdiv_eq_ediv_of_nonneg (by omega)
    repeat (first|(with_reducible first|apply X1|apply X2|apply X3|apply X5|apply X8)|((with_reducible apply e_end);(simp;exact Rz))|((with_reducible apply O1);rfl;(simp (disch:=omega) [h0,e];exact Rz);exact Rz;(focus (first|(simp;done)|omega|(simp;omega))))|((with_reducible apply W3);(simp (disch:=omega) [h0,e];exact Rz)))
    refine q_drop0 (.inr rfl) (by simp;exact Rz) (by simp) ⟨rfl,rfl⟩
theorem c_r4below (H:Heap) (n st:Int) (hn:-100000000≤n∧n≤100000000) (hs:1≤st∧st≤500):ACalls Try.prog F.ref04_below [.int .i64 n,.int .i64 st] H (fun v h'=>v=.int .i64 (n-n % st)∧h'=H):=by
  have h00:¬ st=0:=by omega
  have h1:=Int.emod_nonneg n h00
  have h2:=Int.emod_lt_of_pos n (show 0<st by omega)
  refine acalls_of ok_ref04_below rfl fun hcl=>?_
  unfold ac_ref04_below zo
  simp only [argsT,Nat.zero_add,Nat.reduceAdd]
  by_cases h0:n<0
  · have e:=below_neg h0 hs.1
    have b1:0≤(-n+st-1).tdiv st:=by rw [Int.tdiv_eq_ediv_of_nonneg (by omega)];exact Int.ediv_nonneg (by omega) (by omega)
    have b2:(-n+st-1).tdiv st≤200000000:=by
      rw [Int.tdiv_eq_ediv_of_nonneg (by omega)]
      have:=Int.ediv_le_self (a:=-n+st-1) st (by omega)
      omega
    repeat (first|(with_reducible first|apply X1|apply X2|apply X3|apply X8|apply X9)|((with_reducible apply e_end);(simp;exact Rz))|((with_reducible apply O1);rfl;(simp (disch:=omega) [h0,h00,e];exact Rz);exact Rz;(focus (first|(simp;done)|omega|(simp;omega))))|((with_reducible apply Z9);(simp (disch:=omega) [h0,h00,e];exact Rz)))
    refine q_drop0 (.inr rfl) (by simp;exact Rz) (by simp) ⟨by rw [AV.int.injEq];exact⟨rfl,by omega⟩,rfl⟩
  · have e:=below_pos (n:=n) (st:=st) (by omega)
    have b1:0≤n.tdiv st:=by rw [Int.tdiv_eq_ediv_of_nonneg (by omega)];exact Int.ediv_nonneg (by omega) (by omega)
    have b2:n.tdiv st≤200000000:=by
      rw [Int.tdiv_eq_ediv_of_nonneg (by omega)]
      have:=Int.ediv_le_self (a:=n) st (by omega)
      omega
    repeat (first|(with_reducible first|apply X1|apply X2|apply X3|apply X5|apply X8)|((with_reducible apply e_end);(simp;exact Rz))|((with_reducible apply O1);rfl;(simp (disch:=omega) [h0,h00,e];exact Rz);exact Rz;(focus (first|(simp;done)|omega|(simp;omega))))|((with_reducible apply W3);(simp (disch:=omega) [h0,h00,e];exact Rz)))
    refine q_drop0 (.inr rfl) (by simp;exact Rz) (by simp) ⟨rfl,rfl⟩
def mnW (f:Nat→Int):Nat→Int
  | 0=>4000000
  | j+1=>min (mnW f j) (f j)
def mxW (f:Nat→Int):Nat→Int
  | 0=>-4000000
  | j+1=>max (mxW f j) (f j)
theorem mnW_eq {f g:Nat→Int}:∀ {n:Nat},(∀ i,i≤n→f i≤4000000∧-4000000≤g i)→mnW f (n+1)=wLo f n∧mxW g (n+1)=wHi g n
  | 0,h=>by have:=h 0 (by omega);simp only [mnW,mxW,wLo,wHi];omega
  | n+1,h=>by
    have ih:=mnW_eq (f:=f) (g:=g) (n:=n) fun i hi=>h i (by omega)
    constructor
    · show min (mnW f (n+1)) (f (n+1))=_
      rw [ih.1];rfl
    · show max (mxW g (n+1)) (g (n+1))=_
      rw [ih.2];rfl
theorem sh_of_floor {s:Sc} (g o w:Int):(w * (1000+g)+1000 * o) / 1000-(w * (1000+g)+1000 * o) / 1000 % s.step=shF s g o w:=by
  have e1:(w * (1000+g)+1000 * o) / 1000=gr g w+o:=by simp only [gr];omega
  rw [e1];rfl
theorem sh_bd2 {s:Sc} (hs:1≤s.step∧s.step≤500) {g o w:Int} (hg:-10≤g∧g≤10) (ho:-100≤o∧o≤100) (hw:0≤w∧w≤1000000):-1000≤shF s g o w∧shF s g o w≤1010100:=by
  have h1:=gr_bd hg hw
  have h2:=Int.emod_nonneg (gr g w+o) (show s.step≠0 by omega)
  have h3:=Int.emod_lt_of_pos (gr g w+o) (show 0<s.step by omega)
  simp only [shF]
  omega
set_option maxHeartbeats 2000000 in
theorem c_r4Reads (H:Heap) (s:Sc) (tid toff:Nat) (ex:Bool) (w:Int) (ht:rd H tid toff (s.ts.length * 2)=some (s.ts.flatMap Ti.av)) (hn:(s.ts.length:Int)<1000000) :
    ACalls Try.prog F.ref04_Reads [.agg (s.av tid toff ex),.int .i64 w] H (fun v h'=>v=.tuple [.agg [.int .i64 (rdLo s w),.int .i64 (rdHi s w)],.int .i64 (rdE s w)]∧h'=H):=by
  have htl:=rd_lt ht
  obtain⟨b,hb⟩:=bof s.ok
  obtain⟨bw,hbw⟩:=bof (0≤w∧w≤1000000)
  have kr:=fun X=>c_r4Scale (H++X) s tid toff ex (by rw [rd_old _ htl];exact ht) hn hb
  have kt:=fun X hs=>c_r4tunes (H++X) s tid toff ex (by rw [rd_old _ htl];exact ht) hs
  simp only [Sc.av] at kr kt ⊢
  refine acalls_of ok_ref04_Reads rfl fun hcl=>?_
  unfold ac_ref04_Reads zo
  simp only [argsT,Nat.zero_add,Nat.reduceAdd]
  repeat (first|(with_reducible first|apply X1|apply X2|apply X8)|((with_reducible apply e_end);(simp;exact Rz))|((with_reducible apply O1);rfl;(simp (disch:=omega);exact Rz);exact Rz;(focus (first|(simp;done)|omega|(simp;omega)))))
  (with_reducible apply e_call);(simp;exact Rz);exact kr _
  rintro _ _ ⟨rfl,rfl⟩
  cases b with
  | false =>
    have hno:¬ s.ok:=fun h=>absurd (hb.2 h) (by decide)
    have eE:rdE s w=40:=by simp [rdE,hno]
    repeat (first|(with_reducible first|apply X1|apply X2|apply X3|apply X8|apply X9)|((with_reducible apply e_end);(simp;exact Rz))|((first|((with_reducible apply O1);rfl)|((with_reducible apply O2);rfl));(simp (disch:=omega);exact Rz);exact Rz;(focus (first|(simp;done)|omega|(simp;omega))))|((with_reducible apply Z9);(simp (disch:=omega);exact Rz)))
    refine q_drop (.inr rfl) (by simp;exact Rz) (by simp) ⟨by simp [rdLo,rdHi,eE],rfl⟩
  | true =>
  have hs:=hb.1 rfl
  repeat (first|(with_reducible first|apply X1|apply X2|apply X5|apply X8)|((with_reducible apply e_end);(simp;exact Rz))|((with_reducible apply O1);rfl;(simp (disch:=omega);exact Rz);exact Rz;(focus (first|(simp;done)|omega|(simp;omega))))|((with_reducible apply W3);(simp (disch:=omega);exact Rz)))
  (with_reducible apply e_call);(simp;exact Rz);exact c_r4within _ _ _ _ hbw
  rintro _ _ ⟨rfl,rfl⟩
  cases bw with
  | false =>
    have hno:¬ (0≤w∧w≤1000000):=fun h=>absurd (hbw.2 h) (by decide)
    have eE:rdE s w=2:=by simp only [rdE,if_pos hs,if_neg hno]
    repeat (first|(with_reducible first|apply X1|apply X2|apply X3|apply X8|apply X9)|((with_reducible apply e_end);(simp;exact Rz))|((first|((with_reducible apply O1);rfl)|((with_reducible apply O2);rfl));(simp (disch:=omega);exact Rz);exact Rz;(focus (first|(simp;done)|omega|(simp;omega))))|((with_reducible apply Z9);(simp (disch:=omega);exact Rz)))
    refine q_drop (.inr rfl) (by simp;exact Rz) (by simp) ⟨by simp [rdLo,rdHi,eE],rfl⟩
  | true =>
  have hw:=hbw.1 rfl
  have hbu:=hs.b
  simp only [Sc.built] at hbu
  have hgs:=gs_eq hs
  have hTl:=TG_len s s.gs
  repeat (first|(with_reducible first|apply X1|apply X2|apply X5|apply X8)|((with_reducible apply e_end);(simp;exact Rz))|((with_reducible apply O1);rfl;(simp (disch:=omega);exact Rz);exact Rz;(focus (first|(simp;done)|omega|(simp;omega))))|((with_reducible apply W3);(simp (disch:=omega);exact Rz)))
  (with_reducible apply e_call);(simp;exact Rz);exact kt _ hs
  rintro v _ ⟨G,rfl,hA⟩
  simp only [List.append_assoc,List.cons_append,List.nil_append] at hA ⊢
  have sv:∀ m,v.sc (H.length+(G.length+(m+2)))=true:=fun m=>hA.l.sc (by simp;omega)
  have sv0:=sv 0
  repeat (first|(with_reducible first|apply X1|apply X2|apply X8)|((with_reducible apply e_end);(simp;exact Rz))|((with_reducible apply O1);rfl;(simp (disch:=omega);exact Rz);exact Rz;(focus (first|(simp;done)|omega|(simp;omega)))))
  refine O1 rfl (RAt.len hA.l.r _ (by simp)) Rz trivial ?_
  by_cases h0:(TG s s.gs).length=0
  · have h1:TG s s.gs=[]:=List.eq_nil_of_length_eq_zero h0
    have eE:rdE s w=6:=by simp only [rdE,if_pos hs,if_pos hw,if_pos h1]
    repeat (first|(with_reducible first|apply X1|apply X2|apply X3|apply X8|apply X9)|((with_reducible apply e_end);(simp;exact Rz))|((first|((with_reducible apply O1);rfl)|((with_reducible apply O2);rfl));(simp (disch:=omega) [h0];exact Rz);exact Rz;(focus (first|(simp;done)|omega|(simp;omega))))|((with_reducible apply Z9);(simp (disch:=omega) [h0];exact Rz)))
    refine q_drop (.inr rfl) (by simp;exact Rz) (by simp) ⟨by simp [rdLo,rdHi,eE],rfl⟩
  have h1:TG s s.gs≠[]:=fun h=>h0 (by rw [h];rfl)
  have eE:rdE s w=0:=by simp only [rdE,if_pos hs,if_pos hw,if_neg h1]
  repeat (first|(with_reducible first|apply X1|apply X2|apply X5|apply X6|apply X8)|((with_reducible apply e_end);(simp;exact Rz))|((first|((with_reducible apply O1);rfl)|((with_reducible apply O2);rfl));(simp (disch:=omega) [h0];exact Rz);exact Rz;(focus (first|(simp;done)|omega|(simp;omega))))|((with_reducible apply W3);(simp (disch:=omega) [h0];exact Rz)))
  obtain⟨vid,rfl,hvl,hrow⟩:=hA.tun (i:=0) (by omega)
  have hro:∀ (o:AObj) i c,i<(TG s s.gs).length→c<3→rd (H++.cells [.int .i64 s.id,.int .i64 s.step,.int .i64 s.gLo,.int .i64 s.gHi,.int .i64 s.oLo,.int .i64 s.oHi,.slice tid toff s.ts.length 2 ex] true :: .cells [.int .i64 0,.int .i64 0] true :: (G++[o])) vid (i * 3+c) 1=some (([.int .i64 (tgA s i),.int .i64 (oLoF s (tgA s i) s.ts.length),.int .i64 (oHiF s (tgA s i) s.ts.length)].drop c).take 1):=fun o i c hi hc=>by
    have:=rd_sub' (hrow i hi) c 1 (by omega)
    have h2:=rd_old [o] hvl (i * 3+c) 1
    simp only [List.append_assoc,List.cons_append] at h2
    rw [h2];exact this
  have hfb:∀ i,i<(TG s s.gs).length→(-10≤tgA s i∧tgA s i≤10)∧(-100≤oLoF s (tgA s i) s.ts.length∧oLoF s (tgA s i) s.ts.length≤100)∧(-100≤oHiF s (tgA s i) s.ts.length∧oHiF s (tgA s i) s.ts.length≤100):=fun i hi=>by
    have t1:=tru_at hs hi
    have t2:=t1.1.2
    have t3:=t1.2.2
    omega
  refine e_loop (ι:={ i:Nat // i≤(TG s s.gs).length }) (fun i=>[(1,.int .i64 w),(2,.ptr H.length 0),(4,.ptr (H.length+1) 0),(6,.slice vid 0 (TG s s.gs).length 3 false),(7,.ptr (H.length+(G.length+1+1)) 0),(8,.int .i64 i.1)])
    (fun i=>H++.cells [.int .i64 s.id,.int .i64 s.step,.int .i64 s.gLo,.int .i64 s.gHi,.int .i64 s.oLo,.int .i64 s.oHi,.slice tid toff s.ts.length 2 ex] true :: .cells [.int .i64 0,.int .i64 0] true :: (G++[.cells [.int .i64 (mnW (rdFL s w) i.1),.int .i64 (mxW (rdFH s w) i.1)] true])) (fun i=>(TG s s.gs).length-i.1) ⟨0,by simp⟩ ?_ ?_
  · exact .inl (by simp [mnW,mxW])
  · rintro⟨i,hi⟩
    dsimp only
    by_cases hlt:i<(TG s s.gs).length
    · have hlt2:(i:Int)<(TG s s.gs).length:=by omega
      have r0:=fun o=>hro o i 0 hlt (by omega)
      have r1:=fun o=>hro o i 1 hlt (by omega)
      have r2:=fun o=>hro o i 2 hlt (by omega)
      simp only [Nat.add_zero,List.drop_zero,List.drop_succ_cons,List.take_succ_cons,List.take_zero] at r0 r1 r2
      obtain⟨f1,f2,f3⟩:=hfb i hlt
      have hm0:i * 3+3≤(TG s s.gs).length * 3:=by omega
      have g1:=gr_bd f1 hw
      have b1:-1000≤rdFL s w i∧rdFL s w i≤1010100:=sh_bd2 hbu.2.1 f1 f2 hw
      have b2:-1000≤rdFH s w i∧rdFH s w i≤1010100:=sh_bd2 hbu.2.1 f1 f3 hw
      have efL:shF s (tgA s i) (oLoF s (tgA s i) s.ts.length) w=rdFL s w i:=rfl
      have efH:shF s (tgA s i) (oHiF s (tgA s i) s.ts.length) w=rdFH s w i:=rfl
      have m1:(if rdFL s w i<mnW (rdFL s w) i then rdFL s w i else mnW (rdFL s w) i)=mnW (rdFL s w) (i+1):=by simp only [mnW];split <;> omega
      have m2:(if mxW (rdFH s w) i<rdFH s w i then rdFH s w i else mxW (rdFH s w) i)=mxW (rdFH s w) (i+1):=by simp only [mxW];split <;> omega
      repeat (first|(with_reducible first|apply X1|apply X2|apply X5|apply X6|apply X8|apply Y9)|((with_reducible apply e_end);(simp;exact Rz))|((first|((with_reducible apply O1);rfl)|((with_reducible apply P1);rfl)|((with_reducible apply P2);rfl));(simp (disch:=omega) [hlt,hlt2,r0,r1,r2];exact Rz);exact Rz;(focus (first|(simp;done)|omega|(simp;omega))))|((with_reducible apply Z9);(simp (disch:=omega) [hlt,hlt2,r0,r1,r2];exact Rz)))
      (with_reducible apply d_call);(simp;exact Rz);exact c_r4floor _ _ (by omega);(focus (first|(simp;done)|(simp;omega)))
      repeat (first|((with_reducible apply P1);rfl;(simp (disch:=omega);exact Rz);exact Rz;(focus (first|(simp;done)|omega|(simp;omega))))|((with_reducible apply P6);rfl;(simp (disch:=omega);exact Rz);exact Rz;(focus (first|(simp [pr];done)|(simp [pr];omega)))))
      (with_reducible apply d_call);(simp;exact Rz);exact c_r4below _ _ _ (by omega) hbu.2.1;(focus (first|(simp;done)|(simp;omega)))
      rw [sh_of_floor,efL]
      repeat (first|(with_reducible first|apply X8|apply Y9)|((with_reducible apply d_end);(simp;exact Rz))|((first|((with_reducible apply P1);rfl)|((with_reducible apply P2);rfl)|((with_reducible apply P4);rfl));(simp (disch:=omega) [m1];exact Rz);exact Rz;(focus (first|(simp;done)|omega|(simp;omega)))))
      repeat ((first|((with_reducible apply P1);rfl)|((with_reducible apply P2);rfl));(simp (disch:=omega) [hlt,hlt2,r0,r1,r2];exact Rz);exact Rz;(focus (first|(simp;done)|omega|(simp;omega))))
      (with_reducible apply d_call);(simp;exact Rz);exact c_r4floor _ _ (by omega);(focus (first|(simp;done)|(simp;omega)))
      repeat (first|((with_reducible apply P1);rfl;(simp (disch:=omega);exact Rz);exact Rz;(focus (first|(simp;done)|omega|(simp;omega))))|((with_reducible apply P6);rfl;(simp (disch:=omega);exact Rz);exact Rz;(focus (first|(simp [pr];done)|(simp [pr];omega)))))
      (with_reducible apply d_call);(simp;exact Rz);exact c_r4below _ _ _ (by omega) hbu.2.1;(focus (first|(simp;done)|(simp;omega)))
      rw [sh_of_floor,efH]
      repeat (first|(with_reducible first|apply X2|apply X8|apply Y2)|((with_reducible first|apply e_end|apply d_end);(simp;exact Rz))|((first|((with_reducible apply O1);rfl)|((with_reducible apply P1);rfl)|((with_reducible apply P4);rfl));(simp (disch:=omega) [m2];exact Rz);exact Rz;(focus (first|(simp;done)|omega|(simp;omega)))))
      exact q_again ⟨i+1,hlt⟩ (by dsimp only;omega) (.inl (by simp))
    · have hlt2:¬ (i:Int)<(TG s s.gs).length:=by omega
      obtain rfl:i=(TG s s.gs).length:=by omega
      have hq:=mnW_eq (f:=rdFL s w) (g:=rdFH s w) (n:=(TG s s.gs).length-1) fun i hi=>by
        have:=hfb i (by omega)
        have b1:=sh_bd2 hbu.2.1 this.1 this.2.1 hw
        have b2:=sh_bd2 hbu.2.1 this.1 this.2.2 hw
        simp only [rdFL,rdFH]
        omega
      rw [show (TG s s.gs).length-1+1=(TG s s.gs).length by omega] at hq
      repeat (first|(with_reducible first|apply X1|apply X2|apply X3|apply X4|apply X8|apply Y1|apply Y4|apply Y6)|((with_reducible apply e_end);(simp;exact Rz))|((first|((with_reducible apply O1);rfl)|((with_reducible apply O2);rfl));(simp (disch:=omega) [hlt,hlt2];exact Rz);exact Rz;(focus (first|(simp;done)|omega|(simp;omega))))|((with_reducible apply W3);(simp (disch:=omega) [hlt,hlt2];exact Rz)))
      refine q_drop (.inr rfl) (by simp;exact Rz) (by simp) ⟨by simp [rdLo,rdHi,eE,hq.1,hq.2],rfl⟩
theorem notgrt {H:Heap} {B:List SP} {id off:Nat} {g:Gr} {lv rv kv:AV} (hB:rd H id off (B.length * 7)=some (B.flatMap SP.av)) (hBt:∀ p∈B,rd H p.tid p.toff (p.s.ts.length * 2)=some (p.s.ts.flatMap Ti.av)) (hl:LdAt H lv g.ls) (hr:IAt H rv g.rs) (hk:IAt H kv g.ks) (h:¬ grt B g):BayAt H id off B∧GAt H g lv rv kv∧B.length≤8:=by
  simp only [grt,not_or,not_exists,not_and] at h
  obtain⟨h1,h2,h3,h4,h5⟩:=h
  refine⟨⟨hB,fun p hp=>⟨hBt p hp,?_⟩⟩,⟨hl,hr,hk,by omega,by omega,by omega⟩,by omega⟩
  obtain⟨i,hi,rfl⟩:=mem_bAt hp
  have:=h5 i hi
  omega
set_option maxHeartbeats 4000000 in
theorem c_lawSTu (H:Heap) (B:List SP) (g:Gr) (s:Sc) (w:Int) (bid lid rid kid tid:Nat) (bex lex rex kex tex:Bool) (hB:rd H bid 0 (B.length * 7)=some (B.flatMap SP.av)) (hBt:∀ p∈B,rd H p.tid p.toff (p.s.ts.length * 2)=some (p.s.ts.flatMap Ti.av)) (hl:LdAt H (.slice lid 0 g.ls.length 2 lex) g.ls) (hr:IAt H (.slice rid 0 g.rs.length 1 rex) g.rs) (hk:IAt H (.slice kid 0 g.ks.length 1 kex) g.ks) (ht:rd H tid 0 (s.ts.length * 2)=some (s.ts.flatMap Ti.av)) :
    ACalls Try.prog F.law04_ScaleTunes [.agg [.slice bid 0 B.length 7 bex],.agg (g.av (.slice lid 0 g.ls.length 2 lex) (.slice rid 0 g.rs.length 1 rex) (.slice kid 0 g.ks.length 1 kex)),.agg (s.av tid 0 tex),.int .i64 w] H (fun v _=>v=.bool true):=by
  have hbl:=rd_lt hB
  have hll:=RAt.lt hl (i:=lid) rfl
  have hrl:=RAt.lt hr (i:=rid) rfl
  have hkl:=RAt.lt hk (i:=kid) rfl
  have htl:=rd_lt ht
  obtain⟨b,hb⟩:=bof (grt B g)
  have kG:=fun X=>c_r4Great (H++X) B bid 0 bex (by rw [rd_old _ hbl];exact hB) g _ _ _ (RAt.app hl X) (RAt.app hr X) (RAt.app hk X) hb
  simp only [Gr.av,Sc.av] at kG ⊢
  refine acalls_of ok_law04_ScaleTunes rfl fun hcl=>?_
  unfold ac_law04_ScaleTunes zo
  simp only [argsT,Nat.zero_add,Nat.reduceAdd]
  repeat (first|(with_reducible first|apply X1|apply X2|apply X8)|((with_reducible apply e_end);(simp;exact Rz))|((with_reducible apply O1);rfl;(simp (disch:=omega);exact Rz);exact Rz;(focus (first|(simp;done)|omega|(simp;omega)))))
  (with_reducible apply e_call);(simp;exact Rz);exact kG _
  rintro _ _ ⟨rfl,rfl⟩
  cases b with
  | true =>
    repeat (first|(with_reducible first|apply X1|apply X2|apply X3|apply X8|apply X9)|((with_reducible apply e_end);(simp;exact Rz))|((with_reducible apply O1);rfl;(simp (disch:=omega);exact Rz);exact Rz;(focus (first|(simp;done)|omega|(simp;omega))))|((with_reducible apply Z9);(simp (disch:=omega);exact Rz))|((with_reducible apply Z2);(simp (disch:=omega);exact Rz)))
    exact q_stay (.inr rfl) (by simp;exact Rz) rfl
  | false =>
  obtain⟨hBA,hGA,hB8⟩:=notgrt hB hBt hl hr hk (fun h=>absurd (hb.2 h) (by decide))
  by_cases h10:10<s.ts.length
  · have h10':(10:Int)<s.ts.length:=by omega
    repeat (first|(with_reducible first|apply X1|apply X2|apply X3|apply X8|apply X9)|((with_reducible apply e_end);(simp;exact Rz))|((with_reducible apply O1);rfl;(simp (disch:=omega) [h10,h10'];exact Rz);exact Rz;(focus (first|(simp;done)|omega|(simp;omega))))|((with_reducible first|apply Z7|apply Z9);(simp (disch:=omega) [h10,h10'];exact Rz)))
    exact q_stay (.inr rfl) (by simp;exact Rz) rfl
  have h10':¬ (10:Int)<s.ts.length:=by omega
  have kT:=fun X=>c_TwinScale (H++X) s tid 0 tex (by rw [rd_old _ htl];exact ht) (by omega)
  simp only [Sc.av] at kT
  repeat (first|(with_reducible first|apply X1|apply X2|apply X5|apply X8)|((with_reducible apply e_end);(simp;exact Rz))|((with_reducible apply O1);rfl;(simp (disch:=omega) [h10,h10'];exact Rz);exact Rz;(focus (first|(simp;done)|omega|(simp;omega))))|((with_reducible apply Z7);(simp (disch:=omega) [h10,h10'];exact Rz))|((with_reducible apply W3);(simp (disch:=omega) [h10,h10'];exact Rz)))
  (with_reducible apply e_call);(simp;exact Rz);exact kT _
  rintro _ _ ⟨rfl,rfl⟩
  repeat (first|(with_reducible first|apply X1|apply X2|apply X8)|((with_reducible apply e_end);(simp;exact Rz))|((first|((with_reducible apply O1);rfl)|((with_reducible apply O2);rfl));(simp (disch:=omega);exact Rz);exact Rz;(focus (first|(simp;done)|omega|(simp;omega)))))
  have q4:rd (H++[AObj.cells [.slice bid 0 B.length 7 bex] true,.cells [.slice lid 0 g.ls.length 2 lex,.int .i64 g.added,.int .i64 g.base,.int .i64 g.jit,.slice rid 0 g.rs.length 1 rex,.slice kid 0 g.ks.length 1 kex,.int .i64 g.spread,.bool g.stamp] true,.cells [.int .i64 s.id,.int .i64 s.step,.int .i64 s.gLo,.int .i64 s.gHi,.int .i64 s.oLo,.int .i64 s.oHi,.slice tid 0 s.ts.length 2 tex] true,.cells (s.ts.flatMap Ti.av) true,.cells [.int .i64 s.id,.int .i64 s.step,.int .i64 s.gLo,.int .i64 s.gHi,.int .i64 s.oLo,.int .i64 s.oHi,.slice (H.length+3) 0 s.ts.length 2 false] true]) H.length 0 1=some [.slice bid 0 B.length 7 bex]:=by simp
  have q5:rd (H++[AObj.cells [.slice bid 0 B.length 7 bex] true,.cells [.slice lid 0 g.ls.length 2 lex,.int .i64 g.added,.int .i64 g.base,.int .i64 g.jit,.slice rid 0 g.rs.length 1 rex,.slice kid 0 g.ks.length 1 kex,.int .i64 g.spread,.bool g.stamp] true,.cells [.int .i64 s.id,.int .i64 s.step,.int .i64 s.gLo,.int .i64 s.gHi,.int .i64 s.oLo,.int .i64 s.oHi,.slice tid 0 s.ts.length 2 tex] true,.cells (s.ts.flatMap Ti.av) true,.cells [.int .i64 s.id,.int .i64 s.step,.int .i64 s.gLo,.int .i64 s.gHi,.int .i64 s.oLo,.int .i64 s.oHi,.slice (H.length+3) 0 s.ts.length 2 false] true]) (H.length+1) 0 8=some [.slice lid 0 g.ls.length 2 lex,.int .i64 g.added,.int .i64 g.base,.int .i64 g.jit,.slice rid 0 g.rs.length 1 rex,.slice kid 0 g.ks.length 1 kex,.int .i64 g.spread,.bool g.stamp]:=by simp
  have q6:rd (H++[AObj.cells [.slice bid 0 B.length 7 bex] true,.cells [.slice lid 0 g.ls.length 2 lex,.int .i64 g.added,.int .i64 g.base,.int .i64 g.jit,.slice rid 0 g.rs.length 1 rex,.slice kid 0 g.ks.length 1 kex,.int .i64 g.spread,.bool g.stamp] true,.cells [.int .i64 s.id,.int .i64 s.step,.int .i64 s.gLo,.int .i64 s.gHi,.int .i64 s.oLo,.int .i64 s.oHi,.slice tid 0 s.ts.length 2 tex] true,.cells (s.ts.flatMap Ti.av) true,.cells [.int .i64 s.id,.int .i64 s.step,.int .i64 s.gLo,.int .i64 s.gHi,.int .i64 s.oLo,.int .i64 s.oHi,.slice (H.length+3) 0 s.ts.length 2 false] true]) (H.length+2) 0 7=some [.int .i64 s.id,.int .i64 s.step,.int .i64 s.gLo,.int .i64 s.gHi,.int .i64 s.oLo,.int .i64 s.oHi,.slice tid 0 s.ts.length 2 tex]:=by simp
  have q9:rd (H++[AObj.cells [.slice bid 0 B.length 7 bex] true,.cells [.slice lid 0 g.ls.length 2 lex,.int .i64 g.added,.int .i64 g.base,.int .i64 g.jit,.slice rid 0 g.rs.length 1 rex,.slice kid 0 g.ks.length 1 kex,.int .i64 g.spread,.bool g.stamp] true,.cells [.int .i64 s.id,.int .i64 s.step,.int .i64 s.gLo,.int .i64 s.gHi,.int .i64 s.oLo,.int .i64 s.oHi,.slice tid 0 s.ts.length 2 tex] true,.cells (s.ts.flatMap Ti.av) true,.cells [.int .i64 s.id,.int .i64 s.step,.int .i64 s.gLo,.int .i64 s.gHi,.int .i64 s.oLo,.int .i64 s.oHi,.slice (H.length+3) 0 s.ts.length 2 false] true]) (H.length+4) 0 7=some [.int .i64 s.id,.int .i64 s.step,.int .i64 s.gLo,.int .i64 s.gHi,.int .i64 s.oLo,.int .i64 s.oHi,.slice (H.length+3) 0 s.ts.length 2 false]:=by simp
  have qo:(H++[AObj.cells [.slice bid 0 B.length 7 bex] true,.cells [.slice lid 0 g.ls.length 2 lex,.int .i64 g.added,.int .i64 g.base,.int .i64 g.jit,.slice rid 0 g.rs.length 1 rex,.slice kid 0 g.ks.length 1 kex,.int .i64 g.spread,.bool g.stamp] true,.cells [.int .i64 s.id,.int .i64 s.step,.int .i64 s.gLo,.int .i64 s.gHi,.int .i64 s.oLo,.int .i64 s.oHi,.slice tid 0 s.ts.length 2 tex] true,.cells (s.ts.flatMap Ti.av) true,.cells [.int .i64 s.id,.int .i64 s.step,.int .i64 s.gLo,.int .i64 s.gHi,.int .i64 s.oLo,.int .i64 s.oHi,.slice (H.length+3) 0 s.ts.length 2 false] true])[H.length+3]?=some (.cells (s.ts.flatMap Ti.av) true):=by simp
  have htl2:(s.ts.flatMap Ti.av).length=s.ts.length * 2:=by
    have:∀ l:List Ti,(l.flatMap Ti.av).length=l.length * 2:=fun l=>by
      induction l with
      | nil=>rfl
      | cons x l ih=>simp only [List.flatMap_cons,List.length_append,List.length_cons,Ti.av_length,ih];omega
    exact this _
  have mB:=hBA.app [AObj.cells [.slice bid 0 B.length 7 bex] true,.cells [.slice lid 0 g.ls.length 2 lex,.int .i64 g.added,.int .i64 g.base,.int .i64 g.jit,.slice rid 0 g.rs.length 1 rex,.slice kid 0 g.ks.length 1 kex,.int .i64 g.spread,.bool g.stamp] true,.cells [.int .i64 s.id,.int .i64 s.step,.int .i64 s.gLo,.int .i64 s.gHi,.int .i64 s.oLo,.int .i64 s.oHi,.slice tid 0 s.ts.length 2 tex] true,.cells (s.ts.flatMap Ti.av) true,.cells [.int .i64 s.id,.int .i64 s.step,.int .i64 s.gLo,.int .i64 s.gHi,.int .i64 s.oLo,.int .i64 s.oHi,.slice (H.length+3) 0 s.ts.length 2 false] true]
  have mG:=hGA.app [AObj.cells [.slice bid 0 B.length 7 bex] true,.cells [.slice lid 0 g.ls.length 2 lex,.int .i64 g.added,.int .i64 g.base,.int .i64 g.jit,.slice rid 0 g.rs.length 1 rex,.slice kid 0 g.ks.length 1 kex,.int .i64 g.spread,.bool g.stamp] true,.cells [.int .i64 s.id,.int .i64 s.step,.int .i64 s.gLo,.int .i64 s.gHi,.int .i64 s.oLo,.int .i64 s.oHi,.slice tid 0 s.ts.length 2 tex] true,.cells (s.ts.flatMap Ti.av) true,.cells [.int .i64 s.id,.int .i64 s.step,.int .i64 s.gLo,.int .i64 s.gHi,.int .i64 s.oLo,.int .i64 s.oHi,.slice (H.length+3) 0 s.ts.length 2 false] true]
  have mt:rd (H++[AObj.cells [.slice bid 0 B.length 7 bex] true,.cells [.slice lid 0 g.ls.length 2 lex,.int .i64 g.added,.int .i64 g.base,.int .i64 g.jit,.slice rid 0 g.rs.length 1 rex,.slice kid 0 g.ks.length 1 kex,.int .i64 g.spread,.bool g.stamp] true,.cells [.int .i64 s.id,.int .i64 s.step,.int .i64 s.gLo,.int .i64 s.gHi,.int .i64 s.oLo,.int .i64 s.oHi,.slice tid 0 s.ts.length 2 tex] true,.cells (s.ts.flatMap Ti.av) true,.cells [.int .i64 s.id,.int .i64 s.step,.int .i64 s.gLo,.int .i64 s.gHi,.int .i64 s.oLo,.int .i64 s.oHi,.slice (H.length+3) 0 s.ts.length 2 false] true]) tid 0 (s.ts.length * 2)=some (s.ts.flatMap Ti.av):=by rw [rd_old _ htl];exact ht
  generalize H++[AObj.cells [.slice bid 0 B.length 7 bex] true,.cells [.slice lid 0 g.ls.length 2 lex,.int .i64 g.added,.int .i64 g.base,.int .i64 g.jit,.slice rid 0 g.rs.length 1 rex,.slice kid 0 g.ks.length 1 kex,.int .i64 g.spread,.bool g.stamp] true,.cells [.int .i64 s.id,.int .i64 s.step,.int .i64 s.gLo,.int .i64 s.gHi,.int .i64 s.oLo,.int .i64 s.oHi,.slice tid 0 s.ts.length 2 tex] true,.cells (s.ts.flatMap Ti.av) true,.cells [.int .i64 s.id,.int .i64 s.step,.int .i64 s.gLo,.int .i64 s.gHi,.int .i64 s.oLo,.int .i64 s.oHi,.slice (H.length+3) 0 s.ts.length 2 false] true]=M at *
  have mo:rd M (H.length+3) 0 (s.ts.length * 2)=some (s.ts.flatMap Ti.av):=rd_full qo htl2
  clear kT kG qo
  have l4:=rd_lt q4
  have l5:=rd_lt q5
  have l6:=rd_lt q6
  have l9:=rd_lt q9
  have lt:=rd_lt mt
  have lo:=rd_lt mo
  have hts:(s.ts.length:Int)<1000000:=by omega
  generalize H.length+3=oid at *
  generalize H.length+4=p9 at *
  generalize H.length+2=p6 at *
  generalize H.length+1=p5 at *
  generalize H.length=p4 at *
  have kTu:=fun X=>c_Tunes (M++X) s oid 0 false (by rw [rd_old _ lo];exact mo) hts
  have kRu:=fun X=>c_r4Tunes (M++X) s tid 0 tex (by rw [rd_old _ lt];exact mt) hts
  have kTr:=fun X=>c_Reads (M++X) s oid 0 false w (by rw [rd_old _ lo];exact mo) hts
  have kRr:=fun X=>c_r4Reads (M++X) s tid 0 tex w (by rw [rd_old _ lt];exact mt) hts
  simp only [Sc.av] at kTu kRu kTr kRr
  have kTu0:=kTu []
  rw [List.append_nil] at kTu0
  (with_reducible apply e_call);(simp;exact Rz);exact kTu0
  rintro _ _ ⟨la,G1,rfl,rfl,hA⟩
  have sa:la.sc (M++G1).length=true:=hA.l.sc (Nat.le_refl _)
  repeat (first|(with_reducible first|apply X1|apply X2|apply X8)|((with_reducible apply e_end);(simp;exact Rz))|((with_reducible apply O1);rfl;(simp (disch:=omega) [rd_old _ l6,q6];exact Rz);exact Rz;(focus (first|(simp;done)|omega|(simp;omega)))))
  (with_reducible apply e_call);(simp;exact Rz);exact kRu _
  rintro _ _ ⟨lc,G2,rfl,rfl,hC⟩
  simp only [List.append_assoc] at hC ⊢
  have hA2:AAt (M++(G1++G2)) 3 la (tunL s (tunS s)) (tunS s).length:=by rw [← List.append_assoc];exact hA.app G2
  generalize G1++G2=G at *
  clear hA sa
  repeat (first|(with_reducible first|apply X1|apply X2|apply X8)|((with_reducible apply e_end);(simp;exact Rz))|((with_reducible apply O1);rfl;(simp (disch:=omega) [rd_old _ l9,q9];exact Rz);exact Rz;(focus (first|(simp;done)|omega|(simp;omega)))))
  (with_reducible apply e_call);(simp;exact Rz);exact kTr _
  rintro _ _ ⟨rfl,rfl⟩
  repeat (first|(with_reducible first|apply X1|apply X2|apply X8)|((with_reducible apply e_end);(simp;exact Rz))|((first|((with_reducible apply O1);rfl)|((with_reducible apply O2);rfl));(simp (disch:=omega) [rd_old _ l6,q6];exact Rz);exact Rz;(focus (first|(simp;done)|omega|(simp;omega)))))
  (with_reducible apply e_call);(simp;exact Rz);exact kRr _
  rintro _ _ ⟨rfl,rfl⟩
  repeat (first|(with_reducible first|apply X1|apply X2|apply X8)|((with_reducible apply e_end);(simp;exact Rz))|((first|((with_reducible apply O1);rfl)|((with_reducible apply O2);rfl));(simp (disch:=omega) [rd_old _ l9,q9,rd_old _ l6,q6];exact Rz);exact Rz;(focus (first|(simp;done)|omega|(simp;omega)))))
  have b1:BayAt (M++(G++[AObj.cells [.int .i64 (rdLo s w),.int .i64 (rdHi s w)] true,.cells [.int .i64 (rdLo s w),.int .i64 (rdHi s w)] true,.cells [.int .i64 s.id,.int .i64 s.step,.int .i64 s.gLo,.int .i64 s.gHi,.int .i64 s.oLo,.int .i64 s.oHi,.slice oid 0 s.ts.length 2 false] true,.cells [.int .i64 s.id,.int .i64 s.step,.int .i64 s.gLo,.int .i64 s.gHi,.int .i64 s.oLo,.int .i64 s.oHi,.slice tid 0 s.ts.length 2 tex] true])) (M.length+(G.length+2)) 0 [⟨s,oid,0,false⟩]:=⟨by simp [SP.av,Sc.av],fun p hp=>by
    rw [List.mem_singleton] at hp;subst hp
    exact⟨by rw [rd_old _ lo];exact mo,hts⟩⟩
  have b2:BayAt (M++(G++[AObj.cells [.int .i64 (rdLo s w),.int .i64 (rdHi s w)] true,.cells [.int .i64 (rdLo s w),.int .i64 (rdHi s w)] true,.cells [.int .i64 s.id,.int .i64 s.step,.int .i64 s.gLo,.int .i64 s.gHi,.int .i64 s.oLo,.int .i64 s.oHi,.slice oid 0 s.ts.length 2 false] true,.cells [.int .i64 s.id,.int .i64 s.step,.int .i64 s.gLo,.int .i64 s.gHi,.int .i64 s.oLo,.int .i64 s.oHi,.slice tid 0 s.ts.length 2 tex] true])) (M.length+(G.length+3)) 0 [⟨s,tid,0,tex⟩]:=⟨by simp [SP.av,Sc.av],fun p hp=>by
    rw [List.mem_singleton] at hp;subst hp
    exact⟨by rw [rd_old _ lt];exact mt,hts⟩⟩
  have kSB:=c_r4SameBay _ _ _ _ _ _ _ true true b1 b2 rfl (by simp) (fun i hi=>by
    have:i=0:=by simpa using hi
    subst this;rfl)
  simp only [List.length_cons,List.length_nil,Nat.zero_add] at kSB
  (with_reducible apply e_call);(simp;exact Rz);exact kSB
  rintro _ _ ⟨rfl,rfl⟩
  have gA:AAt (M++(G++[AObj.cells [.int .i64 (rdLo s w),.int .i64 (rdHi s w)] true,.cells [.int .i64 (rdLo s w),.int .i64 (rdHi s w)] true,.cells [.int .i64 s.id,.int .i64 s.step,.int .i64 s.gLo,.int .i64 s.gHi,.int .i64 s.oLo,.int .i64 s.oHi,.slice oid 0 s.ts.length 2 false] true,.cells [.int .i64 s.id,.int .i64 s.step,.int .i64 s.gLo,.int .i64 s.gHi,.int .i64 s.oLo,.int .i64 s.oHi,.slice tid 0 s.ts.length 2 tex] true])) 3 la (tunL s (tunS s)) (tunS s).length:=by rw [← List.append_assoc];exact hA2.app _
  have gC:AAt (M++(G++[AObj.cells [.int .i64 (rdLo s w),.int .i64 (rdHi s w)] true,.cells [.int .i64 (rdLo s w),.int .i64 (rdHi s w)] true,.cells [.int .i64 s.id,.int .i64 s.step,.int .i64 s.gLo,.int .i64 s.gHi,.int .i64 s.oLo,.int .i64 s.oHi,.slice oid 0 s.ts.length 2 false] true,.cells [.int .i64 s.id,.int .i64 s.step,.int .i64 s.gLo,.int .i64 s.gHi,.int .i64 s.oLo,.int .i64 s.oHi,.slice tid 0 s.ts.length 2 tex] true])) 3 lc (tunL s (tunS s)) (tunS s).length:=by rw [← List.append_assoc];exact hC.app _
  have r14:rd (M++(G++[AObj.cells [.int .i64 (rdLo s w),.int .i64 (rdHi s w)] true,.cells [.int .i64 (rdLo s w),.int .i64 (rdHi s w)] true,.cells [.int .i64 s.id,.int .i64 s.step,.int .i64 s.gLo,.int .i64 s.gHi,.int .i64 s.oLo,.int .i64 s.oHi,.slice oid 0 s.ts.length 2 false] true,.cells [.int .i64 s.id,.int .i64 s.step,.int .i64 s.gLo,.int .i64 s.gHi,.int .i64 s.oLo,.int .i64 s.oHi,.slice tid 0 s.ts.length 2 tex] true])) (M.length+G.length) 0 2=some [.int .i64 (rdLo s w),.int .i64 (rdHi s w)]:=by simp
  have r16:rd (M++(G++[AObj.cells [.int .i64 (rdLo s w),.int .i64 (rdHi s w)] true,.cells [.int .i64 (rdLo s w),.int .i64 (rdHi s w)] true,.cells [.int .i64 s.id,.int .i64 s.step,.int .i64 s.gLo,.int .i64 s.gHi,.int .i64 s.oLo,.int .i64 s.oHi,.slice oid 0 s.ts.length 2 false] true,.cells [.int .i64 s.id,.int .i64 s.step,.int .i64 s.gLo,.int .i64 s.gHi,.int .i64 s.oLo,.int .i64 s.oHi,.slice tid 0 s.ts.length 2 tex] true])) (M.length+(G.length+1)) 0 2=some [.int .i64 (rdLo s w),.int .i64 (rdHi s w)]:=by simp
  have hTn:((tunS s).length:Int)<1000000:=by
    by_cases hs:s.ok
    · have e:tunS s=TG s s.gs:=by simp [tunS,hs]
      have:=TG_len s s.gs
      have:=gs_eq hs
      have hb:=hs.b
      simp only [Sc.built] at hb
      rw [e];omega
    · have e:tunS s=[]:=by simp [tunS,hs]
      rw [e];simp
  generalize (G++[AObj.cells [.int .i64 (rdLo s w),.int .i64 (rdHi s w)] true,.cells [.int .i64 (rdLo s w),.int .i64 (rdHi s w)] true,.cells [.int .i64 s.id,.int .i64 s.step,.int .i64 s.gLo,.int .i64 s.gHi,.int .i64 s.oLo,.int .i64 s.oHi,.slice oid 0 s.ts.length 2 false] true,.cells [.int .i64 s.id,.int .i64 s.step,.int .i64 s.gLo,.int .i64 s.gHi,.int .i64 s.oLo,.int .i64 s.oHi,.slice tid 0 s.ts.length 2 tex] true])=GG at *
  have kC1:=fun X=>c_Check4 (M++X) B bid 0 bex (mB.app X) (by omega) g _ _ _ (mG.app X)
  have kC2:=fun X=>c_r4Check (M++X) B bid 0 bex (mB.app X) (by omega) g _ _ _ (mG.app X)
  simp only [Gr.av] at kC1 kC2
  have sa:la.sc (M.length+GG.length)=true:=gA.l.sc (by simp)
  have sc2:lc.sc (M.length+GG.length)=true:=gC.l.sc (by simp)
  have lbid:=rd_lt mB.rows
  have llid:=RAt.lt mG.l (i:=lid) rfl
  have lrid:=RAt.lt mG.r (i:=rid) rfl
  have lkid:=RAt.lt mG.k (i:=kid) rfl
  repeat (first|(with_reducible first|apply X1|apply X8|apply Y9)|((with_reducible apply e_end);(simp;exact Rz))|((first|((with_reducible apply O1);rfl)|((with_reducible apply P2);rfl));(simp (disch:=omega) [rd_old _ l4,q4,rd_old _ l5,q5];exact Rz);exact Rz;(focus (first|(simp;done)|omega|(simp;omega)))))
  (with_reducible apply d_call);(simp;exact Rz);exact kC1 _;(focus (first|(simp;done)|(simp;omega)))
  repeat ((with_reducible apply P6);rfl;(simp (disch:=omega) [rd_old _ l4,q4,rd_old _ l5,q5];exact Rz);exact Rz;(focus (first|(simp [pr];done)|(simp [pr];omega))))
  (with_reducible apply d_call);(simp;exact Rz);exact kC2 _;(focus (first|(simp;done)|(simp;omega)))
  repeat (first|((with_reducible apply P1);rfl;(simp (disch:=omega);exact Rz);exact Rz;(focus (first|(simp;done)|omega|(simp;omega))))|((with_reducible apply Z8);(simp (disch:=omega);exact Rz)))
  have kST:=c_r4SameTunes (M++GG) la lc s (tunS s) gA gC hTn
  (with_reducible apply d_call);(simp;exact Rz);exact kST;(focus (simp [sa,sc2]))
  repeat (first|(with_reducible first|apply X3|apply X8)|((with_reducible apply d_end);(simp;exact Rz))|((first|((with_reducible apply P1);rfl)|((with_reducible apply P2);rfl));(simp (disch:=omega) [r14,r16];exact Rz);exact Rz;(focus (first|(simp;done)|omega|(simp;omega))))|((with_reducible apply Z8);(simp (disch:=omega) [r14,r16];exact Rz)))
  exact q_stay (.inr rfl) (by simp;exact Rz) rfl
end Go.Proofs
