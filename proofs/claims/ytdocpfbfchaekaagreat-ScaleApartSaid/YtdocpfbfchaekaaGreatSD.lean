/- Several texts as one. -/
import Derived.Test.YtdocpfbfchaekaaGreatSC
/- Scale: whether a bay and gear are valid,by the reference. -/
namespace Go.Proofs
open Go.Abs
attribute [local simp] AOp.den AOpd.ev lk cellsOf rd_new rd_new0 rd_zero rd_succ wr_new wr_new0 wr_zero wr_succ splice fillA binA scal sliceCells List.length_append argsT AV.sc scL AObj.sc resV getAll AR.get AOp.slots opdSlots opdsSlots partSlots eqAt at_new0 at_new set_new0 set_new wrap64
set_option linter.unusedSimpArgs false
set_option linter.unusedVariables false
set_option maxHeartbeats 2000000 in
theorem c_r4Bay (H:Heap) (B:List SP) (id off:Nat) (ex2:Bool) (hB:BayAt H id off B) (hn:(B.length:Int)<1000000) {b:Bool} (hb:b=true↔okB B∧B.length≤4) :
    ACalls Try.prog F.ref04_Bay [.agg [.slice id off B.length 7 ex2]] H (fun v h'=>v=.bool b∧h'=H):=by
  have hrl:=rd_lt hB.rows
  have hno:¬ okB B→AV.bool false=.bool b:=fun h=>by rw [AV.bool.injEq];cases b;rfl;exact absurd (hb.1 rfl).1 h
  refine acalls_of ok_ref04_Bay rfl fun hcl=>?_
  unfold ac_ref04_Bay zo
  simp only [argsT,Nat.zero_add,Nat.reduceAdd]
  repeat (first|(with_reducible first|apply X1|apply X2|apply X6|apply X8)|((with_reducible apply e_end);(simp;exact Rz))|((with_reducible apply O1);rfl;(simp (disch:=omega);exact Rz);exact Rz;(focus (first|(simp;done)|omega|(simp;omega)))))
  refine e_loop (ι:={ i:Nat // i≤B.length∧∀ j,j<i→gdB B j }) (fun i=>[(1,.ptr H.length 0),(3,.int .i64 i.1)]) (fun _=>H++[.cells [.slice id off B.length 7 ex2] true]) (fun i=>B.length-i.1) ⟨0,by simp⟩ ?_ ?_
  · exact .inl (by simp)
  · rintro⟨i,hi,hg⟩
    dsimp only
    by_cases hlt:i<B.length
    · have hlt2:(i:Int)<B.length:=by omega
      have hr:=hB.row hlt
      have ht:=hB.trs _ (bAt_mem hlt)
      have htl:=rd_lt ht.1
      have hm0:i * 7+7≤B.length * 7:=by omega
      obtain⟨b1,h1⟩:=bof (bAt B i).s.ok
      have kb:=fun X=>c_r4Scale (H++X) (bAt B i).s (bAt B i).tid (bAt B i).toff (bAt B i).ex (by rw [rd_old _ (rd_lt ht.1)];exact ht.1) ht.2 h1
      have hr0:rd H id (off+i * 7) 1=some [.int .i64 (bAt B i).s.id]:=by have:=rd_sub' hr 0 1 (by omega);simpa [SP.av,Sc.av] using this
      simp only [SP.av,Sc.av] at hr kb
      repeat (first|(with_reducible first|apply X1|apply X2|apply X5|apply X6|apply X8|apply Y9)|((with_reducible apply e_end);(simp;exact Rz))|((first|((with_reducible apply O1);rfl)|((with_reducible apply P1);rfl)|((with_reducible apply P2);rfl));(simp (disch:=omega) [hlt,hlt2,rd_old _ hrl,hr];exact Rz);exact Rz;(focus (first|(simp;done)|omega|(simp;omega))))|((with_reducible apply Z9);(simp (disch:=omega) [hlt,hlt2,rd_old _ hrl,hr];exact Rz)))
      (with_reducible apply d_call);(simp;exact Rz);exact kb _;(focus (first|(simp;done)|(simp;omega)))
      cases b1 with
      | false =>
        repeat (first|(with_reducible first|apply X1|apply X2|apply X3|apply X8|apply X9|apply Y3|apply Y5)|((with_reducible first|apply e_end|apply d_end);(simp;exact Rz))|((first|((with_reducible apply O1);rfl)|((with_reducible apply P1);rfl));(simp (disch:=omega);exact Rz);exact Rz;(focus (first|(simp;done)|omega|(simp;omega))))|((with_reducible apply Z9);(simp (disch:=omega);exact Rz))|((with_reducible apply Z6);(simp (disch:=omega);exact Rz))|((with_reducible apply W2);(simp (disch:=omega);exact Rz)))
        refine q_drop (.inr rfl) (by simp;exact Rz) (by simp) ⟨hno fun h=>absurd (h1.2 (h i hlt).2) (by decide),rfl⟩
      | true =>
        by_cases h0:i=0
        · have hz:¬ 0<i:=by omega
          repeat (first|(with_reducible first|apply X2|apply X5|apply X8|apply Y2)|((with_reducible first|apply e_end|apply d_end);(simp;exact Rz))|((first|((with_reducible apply O1);rfl)|((with_reducible apply P1);rfl));(simp (disch:=omega) [hz];exact Rz);exact Rz;(focus (first|(simp;done)|omega|(simp;omega))))|((with_reducible apply Z8);(simp (disch:=omega) [hz];exact Rz))|((with_reducible apply Z5);(simp (disch:=omega) [hz];exact Rz))|((with_reducible apply W3);(simp (disch:=omega) [hz];exact Rz)))
          refine q_again ⟨i+1,hlt,fun j hj=>?_⟩ (by dsimp only;omega) (.inl (by simp))
          rcases Nat.lt_or_ge j i with h|h
          · exact hg j h
          · have:j=i:=by omega
            subst this;exact⟨fun h=>by omega,h1.1 rfl⟩
        · have hz:0<i:=by omega
          have hq0:=hB.row (i:=i-1) (by omega)
          have hq1:rd H id (off+(i-1) * 7) 1=some [.int .i64 (bAt B (i-1)).s.id]:=by have:=rd_sub' hq0 0 1 (by omega);simpa [SP.av,Sc.av] using this
          have en:((i:Int)-1).toNat=i-1:=by omega
          have e0:(0:Int)≤(i:Int)-1:=by omega
          have e1:(i:Int)-1<B.length:=by omega
          by_cases hid:(bAt B i).s.id≤(bAt B (i-1)).s.id
          · repeat (first|(with_reducible first|apply X1|apply X2|apply X3|apply X8|apply X9|apply Y3|apply Y5)|((with_reducible first|apply e_end|apply d_end);(simp;exact Rz))|((first|((with_reducible apply O1);rfl)|((with_reducible apply P1);rfl)|((with_reducible apply P2);rfl));(simp (disch:=omega) [hlt,hlt2,rd_old _ hrl,hr0,hz,en,e0,e1,hq1,hid];exact Rz);exact Rz;(focus (first|(simp;done)|omega|(simp;omega))))|((with_reducible first|apply Z8|apply Z9);(simp (disch:=omega) [hlt,hlt2,rd_old _ hrl,hr0,hz,en,e0,e1,hq1,hid];exact Rz)))
            refine q_drop (.inr rfl) (by simp;exact Rz) (by simp) ⟨hno fun h=>by have:=(h i hlt).1 hz;omega,rfl⟩
          · repeat (first|(with_reducible first|apply X2|apply X5|apply X8|apply Y2)|((with_reducible first|apply e_end|apply d_end);(simp;exact Rz))|((first|((with_reducible apply O1);rfl)|((with_reducible apply P1);rfl)|((with_reducible apply P2);rfl));(simp (disch:=omega) [hlt,hlt2,rd_old _ hrl,hr0,hz,en,e0,e1,hq1,hid];exact Rz);exact Rz;(focus (first|(simp;done)|omega|(simp;omega))))|((with_reducible apply Z8);(simp (disch:=omega) [hlt,hlt2,rd_old _ hrl,hr0,hz,en,e0,e1,hq1,hid];exact Rz))|((with_reducible apply W3);(simp (disch:=omega) [hlt,hlt2,rd_old _ hrl,hr0,hz,en,e0,e1,hq1,hid];exact Rz)))
            refine q_again ⟨i+1,hlt,fun j hj=>?_⟩ (by dsimp only;omega) (.inl (by simp))
            rcases Nat.lt_or_ge j i with h|h
            · exact hg j h
            · have:j=i:=by omega
              subst this;exact⟨fun _=>by omega,h1.1 rfl⟩
    · have hlt2:¬ (i:Int)<B.length:=by omega
      obtain rfl:i=B.length:=by omega
      by_cases h4:B.length≤4
      · have h42:(B.length:Int)≤4:=by omega
        repeat (first|(with_reducible first|apply X1|apply X2|apply X3|apply X4|apply X8|apply Y1|apply Y4|apply Y6)|((with_reducible apply e_end);(simp;exact Rz))|((with_reducible apply O1);rfl;(simp (disch:=omega) [hlt2,h4,h42];exact Rz);exact Rz;(focus (first|(simp;done)|omega|(simp;omega))))|((with_reducible apply W3);(simp (disch:=omega) [hlt2,h4,h42];exact Rz)))
        refine q_drop (.inr rfl) (by simp;exact Rz) (by simp) ⟨by rw [AV.bool.injEq];exact (hb.2 ⟨hg,h4⟩).symm,rfl⟩
      · have h42:¬ (B.length:Int)≤4:=by omega
        repeat (first|(with_reducible first|apply X1|apply X2|apply X3|apply X4|apply X8|apply Y1|apply Y4|apply Y6)|((with_reducible apply e_end);(simp;exact Rz))|((with_reducible apply O1);rfl;(simp (disch:=omega) [hlt2,h4,h42];exact Rz);exact Rz;(focus (first|(simp;done)|omega|(simp;omega))))|((with_reducible apply W3);(simp (disch:=omega) [hlt2,h4,h42];exact Rz)))
        refine q_drop (.inr rfl) (by simp;exact Rz) (by simp) ⟨by rw [AV.bool.injEq];cases b;rfl;exact absurd (hb.1 rfl).2 h4,rfl⟩
def whB (B:List SP) (id:Int):Nat→Option Nat
  | 0=>none
  | i+1=>match whB B id i with
    | some j=>some j
    | none=>if (bAt B i).s.id=id then some i else none
theorem whB_none {B:List SP} {id:Int}:∀ {i},whB B id i=none↔∀ j,j<i→(bAt B j).s.id≠id
  | 0=>by simp [whB]
  | i+1=>by
    have ih:=whB_none (B:=B) (id:=id) (i:=i)
    simp only [whB]
    cases h:whB B id i with
    | some j =>
      simp only [reduceCtorEq,false_iff]
      intro h2
      rw [ih.2 fun j hj=>h2 j (by omega)] at h;cases h
    | none =>
      rw [h] at ih
      have ih2:=ih.1 rfl
      constructor
      · intro h2 j hj
        rcases Nat.lt_or_ge j i with h3|h3
        · exact ih2 j h3
        · have:j=i:=by omega
          subst this
          intro h4;simp [h4] at h2
      · intro h2;simp [h2 i (by omega)]
theorem whB_some {B:List SP} {id:Int} {k:Nat}:∀ {i},whB B id i=some k→k<i∧(bAt B k).s.id=id
  | 0,h=>by cases h
  | i+1,h=>by
    simp only [whB] at h
    split at h
    · rename_i j hj
      cases h
      have:=whB_some hj
      exact⟨by omega,this.2⟩
    · split at h
      · rename_i h2;cases h;exact⟨by omega,h2⟩
      · cases h
def whV (B:List SP) (id:Int):Int:=match whB B id B.length with
  | some k=>k
  | none=>-1
theorem c_r4At (H:Heap) (B:List SP) (id off:Nat) (ex2:Bool) (hB:BayAt H id off B) (hn:(B.length:Int)<1000000) (q:Int) :
    ACalls Try.prog F.ref04_At [.agg [.slice id off B.length 7 ex2],.int .i64 q] H (fun v h'=>v=.int .i64 (whV B q)∧h'=H):=by
  have hrl:=rd_lt hB.rows
  refine acalls_of ok_ref04_At rfl fun hcl=>?_
  unfold ac_ref04_At zo
  simp only [argsT,Nat.zero_add,Nat.reduceAdd]
  repeat (first|(with_reducible first|apply X1|apply X2|apply X6|apply X8)|((with_reducible apply e_end);(simp;exact Rz))|((with_reducible apply O1);rfl;(simp (disch:=omega);exact Rz);exact Rz;(focus (first|(simp;done)|omega|(simp;omega)))))
  refine e_loop (ι:={ i:Nat // i≤B.length∧whB B q i=none }) (fun i=>[(1,.int .i64 q),(2,.ptr H.length 0),(5,.int .i64 i.1)]) (fun _=>H++[.cells [.slice id off B.length 7 ex2] true]) (fun i=>B.length-i.1) ⟨0,by simp [whB]⟩ ?_ ?_
  · exact .inl (by simp)
  · rintro⟨i,hi,hg⟩
    dsimp only
    by_cases hlt:i<B.length
    · have hlt2:(i:Int)<B.length:=by omega
      have hr:=hB.row hlt
      have hm0:i * 7+7≤B.length * 7:=by omega
      have hr0:rd H id (off+i * 7) 1=some [.int .i64 (bAt B i).s.id]:=by have:=rd_sub' hr 0 1 (by omega);simpa [SP.av,Sc.av] using this
      have e1:whB B q (i+1)=if (bAt B i).s.id=q then some i else none:=by simp only [whB,hg]
      by_cases he:(bAt B i).s.id=q
      · rw [if_pos he] at e1
        have keep:∀ m,whB B q (i+1+m)=some i:=fun m=>by
          induction m with
          | zero=>exact e1
          | succ m ih=>show (match whB B q (i+1+m) with|some j=>some j|none=>_)=some i;rw [ih]
        have e2:=keep (B.length-(i+1))
        rw [show i+1+(B.length-(i+1))=B.length by omega] at e2
        repeat (first|(with_reducible first|apply X1|apply X2|apply X3|apply X5|apply X6|apply X8|apply X9|apply Y3|apply Y5)|((with_reducible apply e_end);(simp;exact Rz))|((with_reducible apply O1);rfl;(simp (disch:=omega) [hlt,hlt2,rd_old _ hrl,hr0,he];exact Rz);exact Rz;(focus (first|(simp;done)|omega|(simp;omega))))|((with_reducible apply Z9);(simp (disch:=omega) [hlt,hlt2,rd_old _ hrl,hr0,he];exact Rz)))
        refine q_drop (.inr rfl) (by simp;exact Rz) (by simp) ⟨by simp only [whV,e2],rfl⟩
      · rw [if_neg he] at e1
        repeat (first|(with_reducible first|apply X1|apply X2|apply X5|apply X6|apply X8|apply Y2)|((with_reducible apply e_end);(simp;exact Rz))|((with_reducible apply O1);rfl;(simp (disch:=omega) [hlt,hlt2,rd_old _ hrl,hr0,he];exact Rz);exact Rz;(focus (first|(simp;done)|omega|(simp;omega))))|((with_reducible apply Z9);(simp (disch:=omega) [hlt,hlt2,rd_old _ hrl,hr0,he];exact Rz))|((with_reducible apply W3);(simp (disch:=omega) [hlt,hlt2,rd_old _ hrl,hr0,he];exact Rz)))
        exact q_again ⟨i+1,hlt,e1⟩ (by dsimp only;omega) (.inl (by simp))
    · have hlt2:¬ (i:Int)<B.length:=by omega
      obtain rfl:i=B.length:=by omega
      repeat (first|(with_reducible first|apply X1|apply X2|apply X3|apply X4|apply X8|apply Y1|apply Y4|apply Y6)|((with_reducible apply e_end);(simp;exact Rz))|((with_reducible apply O1);rfl;(simp (disch:=omega) [hlt2];exact Rz);exact Rz;(focus (first|(simp;done)|omega|(simp;omega))))|((with_reducible apply W3);(simp (disch:=omega) [hlt2];exact Rz)))
      refine q_drop (.inr rfl) (by simp;exact Rz) (by simp) ⟨by simp only [whV,hg],rfl⟩
theorem c_r4numbers (H:Heap) (v:AV) (xs:List Int) (hI:IAt H v xs) (hn:(xs.length:Int)<1000000) (most lo hi:Int) {b:Bool} (hb:b=true↔(xs.length:Int)≤most∧∀ x∈xs,lo≤x∧x≤hi) :
    ACalls Try.prog F.ref04_numbers [v,.int .i64 most,.int .i64 lo,.int .i64 hi] H (fun r h'=>r=.bool b∧h'=H):=by
  have sv:=RAt.sc hI (Nat.le_refl _)
  refine acalls_of ok_ref04_numbers rfl fun hcl=>?_
  unfold ac_ref04_numbers zo
  simp only [argsT,Nat.zero_add,Nat.reduceAdd]
  repeat (first|(with_reducible first|apply X1|apply X2|apply X6|apply X8)|((with_reducible apply e_end);(simp;exact Rz))|((with_reducible apply O1);rfl;(simp (disch:=omega);exact Rz);exact Rz;(focus (first|(simp;done)|omega|(simp;omega)))))
  refine e_loop (ι:={ i:Nat // i≤xs.length∧∀ j,j<i→lo≤gI xs j∧gI xs j≤hi }) (fun i=>[(0,v),(1,.int .i64 most),(2,.int .i64 lo),(3,.int .i64 hi),(9,.int .i64 i.1)]) (fun _=>H) (fun i=>xs.length-i.1) ⟨0,by simp⟩ ?_ ?_
  · exact .inl rfl
  · rintro⟨i,hil,hg⟩
    dsimp only
    repeat (first|(with_reducible first|apply X1|apply X2)|((with_reducible apply O1);rfl;(simp (disch:=omega);exact Rz);exact Rz;(focus (first|(simp;done)|omega|(simp;omega)))))
    refine O1 rfl (RAt.len hI _ (by simp)) Rz trivial ?_
    by_cases hlt:i<xs.length
    · have hlt2:(i:Int)<xs.length:=by omega
      obtain⟨id,off,ex,rfl,hx,hid⟩:=IAt.get hI hlt
      rw [← gI_eq hlt] at hx
      obtain⟨b1,h1⟩:=bof (lo≤gI xs i∧gI xs i≤hi)
      repeat (first|(with_reducible first|apply X1|apply X2|apply X5|apply X6|apply X8)|((with_reducible apply e_end);(simp;exact Rz))|((with_reducible apply O1);rfl;(simp (disch:=omega) [hlt,hlt2,hx];exact Rz);exact Rz;(focus (first|(simp;done)|omega|(simp;omega))))|((with_reducible apply Z9);(simp (disch:=omega) [hlt,hlt2,hx];exact Rz)))
      (with_reducible apply e_call);(simp;exact Rz);exact c_r4within _ _ _ _ h1
      rintro _ hqh ⟨rfl,hqe⟩
      rw [hqe];clear hqe hqh
      cases b1 with
      | false =>
        repeat (first|(with_reducible first|apply X1|apply X2|apply X3|apply X8|apply X9|apply Y3|apply Y5)|((with_reducible apply e_end);(simp;exact Rz))|((with_reducible apply O1);rfl;(simp (disch:=omega);exact Rz);exact Rz;(focus (first|(simp;done)|omega|(simp;omega))))|((with_reducible apply Z9);(simp (disch:=omega);exact Rz)))
        refine q_drop0 (.inr rfl) (by simp;exact Rz) (by simp) ⟨by rw [AV.bool.injEq];cases b;rfl;exact absurd (h1.2 ((hb.1 rfl).2 _ (by rw [gI_eq hlt];exact List.getElem_mem _))) (by decide),rfl⟩
      | true =>
        repeat (first|(with_reducible first|apply X2|apply X5|apply X8|apply Y2)|((with_reducible apply e_end);(simp;exact Rz))|((with_reducible apply O1);rfl;(simp (disch:=omega);exact Rz);exact Rz;(focus (first|(simp;done)|omega|(simp;omega))))|((with_reducible apply W3);(simp (disch:=omega);exact Rz)))
        refine q_again ⟨i+1,hlt,fun j hj=>?_⟩ (by dsimp only;omega) (.inl (by simp))
        rcases Nat.lt_or_ge j i with h|h
        · exact hg j h
        · have:j=i:=by omega
          subst this;exact h1.1 rfl
    · have hlt2:¬ (i:Int)<xs.length:=by omega
      obtain rfl:i=xs.length:=by omega
      have hall:∀ x∈xs,lo≤x∧x≤hi:=fun x hx=>by
        obtain⟨k,hk,rfl⟩:=List.mem_iff_getElem.1 hx
        have:=hg k hk
        rwa [gI_eq hk] at this
      repeat (first|(with_reducible first|apply X1|apply X2|apply X4|apply X8|apply Y1|apply Y4|apply Y6)|((with_reducible apply e_end);(simp;exact Rz))|((with_reducible apply O1);rfl;(simp (disch:=omega) [hlt,hlt2];exact Rz);exact Rz;(focus (first|(simp;done)|omega|(simp;omega))))|((with_reducible apply W3);(simp (disch:=omega) [hlt,hlt2];exact Rz)))
      refine O1 rfl (RAt.len hI _ (by simp)) Rz trivial ?_
      repeat (first|(with_reducible first|apply X3|apply X8)|((with_reducible apply e_end);(simp;exact Rz))|((with_reducible apply O1);rfl;(simp (disch:=omega);exact Rz);exact Rz;(focus (first|(simp;done)|omega|(simp;omega)))))
      refine q_drop0 (.inr rfl) (by simp;exact Rz) (by simp) ⟨by rw [AV.bool.injEq,Bool.eq_iff_iff,hb,decide_eq_true_eq];exact⟨fun h=>⟨h,hall⟩,fun h=>h.1⟩,rfl⟩
set_option maxHeartbeats 2000000 in
theorem c_r4Bare (H:Heap) (g:Gr) (lv rv kv:AV) (hg:GAt H g lv rv kv) {b:Bool} (hb:b=true↔g.bare):ACalls Try.prog F.ref04_Bare [.agg (g.av lv rv kv)] H (fun v h'=>v=.bool b∧h'=H):=by
  have hno:¬ g.bare→AV.bool false=.bool b:=fun h=>by rw [AV.bool.injEq];cases b;rfl;exact absurd (hb.1 rfl) h
  have sl:∀ m,lv.sc (H.length+m)=true:=fun m=>RAt.sc hg.l (by omega)
  have sr:∀ m,rv.sc (H.length+m)=true:=fun m=>RAt.sc hg.r (by omega)
  have sk:∀ m,kv.sc (H.length+m)=true:=fun m=>RAt.sc hg.k (by omega)
  have nr:=hg.rn
  have nk:=hg.kn
  obtain⟨c1,e1⟩:=bof (0≤g.added∧g.added≤1000000)
  obtain⟨c2,e2⟩:=bof (-1000≤g.base∧g.base≤1000)
  obtain⟨c3,e3⟩:=bof (0≤g.jit∧g.jit≤1000)
  obtain⟨c4,e4⟩:=bof ((g.rs.length:Int)≤8∧∀ x∈g.rs,-1000≤x∧x≤1000)
  obtain⟨c5,e5⟩:=bof ((g.ks.length:Int)≤8∧∀ x∈g.ks,0≤x∧x≤2000)
  obtain⟨c6,e6⟩:=bof (0≤g.spread∧g.spread≤2000)
  simp only [Gr.av]
  refine acalls_of ok_ref04_Bare rfl fun hcl=>?_
  unfold ac_ref04_Bare zo
  simp only [argsT,Nat.zero_add,Nat.reduceAdd]
  repeat (first|(with_reducible first|apply X1|apply X2|apply X8)|((with_reducible apply e_end);(simp;exact Rz))|((with_reducible apply O1);rfl;(simp (disch:=omega);exact Rz);exact Rz;(focus (first|(simp;done)|omega|(simp;omega)))))
  (with_reducible apply e_call);(simp;exact Rz);exact c_r4within _ _ _ _ e1
  rintro _ _ ⟨rfl,rfl⟩
  cases c1 with
  | false =>
    repeat (first|(with_reducible first|apply X3|apply X8)|((with_reducible apply e_end);(simp;exact Rz))|((with_reducible apply O1);rfl;(simp (disch:=omega);exact Rz);exact Rz;(focus (first|(simp;done)|omega|(simp;omega))))|((with_reducible apply Z1);(simp (disch:=omega);exact Rz)))
    refine q_drop (.inr rfl) (by simp;exact Rz) (by simp) ⟨hno fun h=>absurd (e1.2 h.ad) (by decide),rfl⟩
  | true =>
  repeat (first|((with_reducible apply O1);rfl;(simp (disch:=omega);exact Rz);exact Rz;(focus (first|(simp;done)|omega|(simp;omega))))|((with_reducible apply Z7);(simp (disch:=omega);exact Rz)))
  (with_reducible apply e_call);(simp;exact Rz);exact c_r4within _ _ _ _ e2
  rintro _ _ ⟨rfl,rfl⟩
  cases c2 with
  | false =>
    repeat (first|(with_reducible first|apply X3|apply X8)|((with_reducible apply e_end);(simp;exact Rz))|((with_reducible apply O1);rfl;(simp (disch:=omega);exact Rz);exact Rz;(focus (first|(simp;done)|omega|(simp;omega))))|((with_reducible apply Z1);(simp (disch:=omega);exact Rz)))
    refine q_drop (.inr rfl) (by simp;exact Rz) (by simp) ⟨hno fun h=>absurd (e2.2 h.ba) (by decide),rfl⟩
  | true =>
  repeat (first|((with_reducible apply O1);rfl;(simp (disch:=omega);exact Rz);exact Rz;(focus (first|(simp;done)|omega|(simp;omega))))|((with_reducible apply Z7);(simp (disch:=omega);exact Rz)))
  (with_reducible apply e_call);(simp;exact Rz);exact c_r4within _ _ _ _ e3
  rintro _ _ ⟨rfl,rfl⟩
  cases c3 with
  | false =>
    repeat (first|(with_reducible first|apply X3|apply X8)|((with_reducible apply e_end);(simp;exact Rz))|((with_reducible apply O1);rfl;(simp (disch:=omega);exact Rz);exact Rz;(focus (first|(simp;done)|omega|(simp;omega))))|((with_reducible apply Z1);(simp (disch:=omega);exact Rz)))
    refine q_drop (.inr rfl) (by simp;exact Rz) (by simp) ⟨hno fun h=>absurd (e3.2 h.ji) (by decide),rfl⟩
  | true =>
  repeat (first|((with_reducible apply O1);rfl;(simp (disch:=omega);exact Rz);exact Rz;(focus (first|(simp;done)|omega|(simp;omega))))|((with_reducible apply Z7);(simp (disch:=omega);exact Rz)))
  (with_reducible apply e_call);(simp;exact Rz);exact c_r4numbers _ _ _ (RAt.app hg.r _) nr _ _ _ e4
  rintro _ _ ⟨rfl,rfl⟩
  cases c4 with
  | false =>
    repeat (first|(with_reducible first|apply X3|apply X8)|((with_reducible apply e_end);(simp;exact Rz))|((with_reducible apply O1);rfl;(simp (disch:=omega);exact Rz);exact Rz;(focus (first|(simp;done)|omega|(simp;omega))))|((with_reducible apply Z1);(simp (disch:=omega);exact Rz)))
    refine q_drop (.inr rfl) (by simp;exact Rz) (by simp) ⟨hno fun h=>absurd (e4.2 ⟨by have:=h.rl;omega,h.ru⟩) (by decide),rfl⟩
  | true =>
  repeat (first|((with_reducible apply O1);rfl;(simp (disch:=omega);exact Rz);exact Rz;(focus (first|(simp;done)|omega|(simp;omega))))|((with_reducible apply Z7);(simp (disch:=omega);exact Rz)))
  (with_reducible apply e_call);(simp;exact Rz);exact c_r4numbers _ _ _ (RAt.app hg.k _) nk _ _ _ e5
  rintro _ _ ⟨rfl,rfl⟩
  cases c5 with
  | false =>
    repeat (first|(with_reducible first|apply X3|apply X8)|((with_reducible apply e_end);(simp;exact Rz))|((with_reducible apply O1);rfl;(simp (disch:=omega);exact Rz);exact Rz;(focus (first|(simp;done)|omega|(simp;omega))))|((with_reducible apply Z1);(simp (disch:=omega);exact Rz)))
    refine q_drop (.inr rfl) (by simp;exact Rz) (by simp) ⟨hno fun h=>absurd (e5.2 ⟨by have:=h.kl;omega,h.st⟩) (by decide),rfl⟩
  | true =>
  repeat (first|((with_reducible apply O1);rfl;(simp (disch:=omega);exact Rz);exact Rz;(focus (first|(simp;done)|omega|(simp;omega))))|((with_reducible apply Z7);(simp (disch:=omega);exact Rz)))
  (with_reducible apply e_call);(simp;exact Rz);exact c_r4within _ _ _ _ e6
  rintro _ _ ⟨rfl,rfl⟩
  repeat (first|(with_reducible first|apply X3|apply X8)|((with_reducible apply e_end);(simp;exact Rz))|((with_reducible apply O1);rfl;(simp (disch:=omega);exact Rz);exact Rz;(focus (first|(simp;done)|omega|(simp;omega)))))
  refine q_drop (.inr rfl) (by simp;exact Rz) (by simp) ⟨by rw [AV.bool.injEq,Bool.eq_iff_iff,hb,e6];exact⟨fun h=>⟨by have:=(e4.1 rfl).1;omega,by have:=(e5.1 rfl).1;omega,e1.1 rfl,e2.1 rfl,(e4.1 rfl).2,e3.1 rfl,h,(e5.1 rfl).2⟩,fun h=>h.sp⟩,rfl⟩
end Go.Proofs
/- Scale: Check and Great,by the reference. -/
namespace Go.Proofs
open Go.Abs
attribute [local simp] AOp.den AOpd.ev lk cellsOf rd_new rd_new0 rd_zero rd_succ wr_new wr_new0 wr_zero wr_succ splice fillA binA scal sliceCells List.length_append argsT AV.sc scL AObj.sc resV getAll AR.get AOp.slots opdSlots opdsSlots partSlots eqAt at_new0 at_new set_new0 set_new wrap64
set_option linter.unusedSimpArgs false
set_option linter.unusedVariables false
set_option maxHeartbeats 4000000 in
theorem c_r4Gear (H:Heap) (B:List SP) (id off:Nat) (ex2:Bool) (hB:BayAt H id off B) (hok:okB B) (hn:(B.length:Int)<1000000) (g:Gr) (lv rv kv:AV) (hg:GAt H g lv rv kv) {b:Bool} (hb:b=true↔okG B g) :
    ACalls Try.prog F.ref04_Gear [.agg [.slice id off B.length 7 ex2],.agg (g.av lv rv kv)] H (fun v h'=>v=.bool b∧h'=H):=by
  have hno:¬ okG B g→AV.bool false=.bool b:=fun h=>by rw [AV.bool.injEq];cases b;rfl;exact absurd (hb.1 rfl) h
  have hrl:=rd_lt hB.rows
  have sl:∀ m,lv.sc (H.length+m)=true:=fun m=>RAt.sc hg.l (by omega)
  have sr:∀ m,rv.sc (H.length+m)=true:=fun m=>RAt.sc hg.r (by omega)
  have sk:∀ m,kv.sc (H.length+m)=true:=fun m=>RAt.sc hg.k (by omega)
  have sl0:=sl 0
  have sr0:=sr 0
  have sk0:=sk 0
  rw [Nat.add_zero] at sl0 sr0 sk0
  obtain⟨bi,hbi⟩:=bof g.bare
  have ki:=fun X=>c_r4Bare (H++X) g lv rv kv (hg.app X) hbi
  have hlr:∀ j,j<g.ls.length→∃ lid loff lex,lv=.slice lid loff g.ls.length 2 lex∧lid<H.length∧rd H lid (loff+j * 2) 1=some [.int .i64 (lAt g.ls j).id]∧rd H lid (loff+j * 2+1) 1=some [.int .i64 (lAt g.ls j).n]:=fun j hj=>by
    obtain⟨lid,loff,lex,e,hr⟩:=hg.l.slice (by omega)
    have:=rd_row Ld.av_length hr hj
    rw [← lAt_eq hj] at this
    have t0:=rd_sub' this 0 1 (by omega)
    have t1:=rd_sub' this 1 1 (by omega)
    exact⟨lid,loff,lex,e,rd_lt hr,by simpa [Ld.av] using t0,by simpa [Ld.av] using t1⟩
  have hln:=hg.ln
  simp only [Gr.av] at ki ⊢
  refine acalls_of ok_ref04_Gear rfl fun hcl=>?_
  unfold ac_ref04_Gear zo
  simp only [argsT,Nat.zero_add,Nat.reduceAdd]
  repeat (first|(with_reducible first|apply X1|apply X2|apply X6|apply X8)|((with_reducible apply e_end);(simp;exact Rz))|((with_reducible apply O1);rfl;(simp (disch:=omega);exact Rz);exact Rz;(focus (first|(simp;done)|omega|(simp;omega)))))
  refine e_loop (ι:={ i:Nat // i≤g.ls.length∧∀ j,j<i→ldB B (lAt g.ls j) }) (fun i=>[(2,.ptr H.length 0),(3,.ptr (H.length+1) 0),(5,.int .i64 i.1)]) (fun _=>H++[.cells [.slice id off B.length 7 ex2] true,.cells [lv,.int .i64 g.added,.int .i64 g.base,.int .i64 g.jit,rv,kv,.int .i64 g.spread,.bool g.stamp] true]) (fun i=>g.ls.length-i.1) ⟨0,by simp⟩ ?_ ?_
  · exact .inl (by simp)
  · rintro⟨i,hi,hgd⟩
    dsimp only
    repeat (first|(with_reducible first|apply X1|apply X2)|((with_reducible apply O1);rfl;(simp (disch:=omega);exact Rz);exact Rz;(focus (first|(simp;done)|omega|(simp;omega)))))
    refine O1 rfl (RAt.len hg.l _ (by simp)) Rz trivial ?_
    by_cases hlt:i<g.ls.length
    · have hlt2:(i:Int)<g.ls.length:=by omega
      obtain⟨lid,loff,lex,rfl,hll,hx0,hx1⟩:=hlr i hlt
      have hm0:i * 2+2≤g.ls.length * 2:=by omega
      repeat (first|(with_reducible first|apply X1|apply X5|apply X6|apply X8|apply Y9)|((with_reducible apply e_end);(simp;exact Rz))|((first|((with_reducible apply O1);rfl)|((with_reducible apply P1);rfl)|((with_reducible apply P2);rfl));(simp (disch:=omega) [hlt,hlt2,rd_old _ hll,hx0];exact Rz);exact Rz;(focus (first|(simp;done)|omega|(simp;omega))))|((with_reducible apply Z9);(simp (disch:=omega) [hlt,hlt2,rd_old _ hll,hx0];exact Rz)))
      (with_reducible apply d_call);(simp;exact Rz);exact c_r4At _ B _ _ _ (hB.app _) hn _;(focus (first|(simp;done)|(simp;omega)))
      cases hw:whB B (lAt g.ls i).id B.length with
      | none =>
        have e:whV B (lAt g.ls i).id=-1:=by simp only [whV,hw]
        rw [e]
        repeat (first|(with_reducible first|apply X1|apply X2|apply X3|apply X8|apply X9|apply Y3|apply Y5|apply Y9)|((with_reducible first|apply e_end|apply d_end);(simp;exact Rz))|((first|((with_reducible apply O1);rfl)|((with_reducible apply P1);rfl));(simp (disch:=omega);exact Rz);exact Rz;(focus (first|(simp;done)|omega|(simp;omega))))|((with_reducible apply Z9);(simp (disch:=omega);exact Rz))|((with_reducible apply Z6);(simp (disch:=omega);exact Rz)))
        refine q_drop (.inr rfl) (by simp;exact Rz) (by simp) ⟨hno fun h=>by
          obtain⟨j,hj,he,_⟩:=h.ld i hlt
          exact (whB_none.1 hw) j hj he,rfl⟩
      | some k =>
        have e:whV B (lAt g.ls i).id=k:=by simp only [whV,hw]
        have hk:=whB_some hw
        have hkr:=hB.row hk.1
        have hk1:rd H id (off+k * 7+1) 1=some [.int .i64 (bAt B k).s.step]:=by have:=rd_sub' hkr 1 1 (by omega);simpa [SP.av,Sc.av] using this
        have hm1:k * 7+7≤B.length * 7:=by omega
        have hk2:(k:Int)<B.length:=by omega
        have hk3:¬ (k:Int)<0:=by omega
        have hst:=(hok k hk.1).2.b.2.1
        obtain⟨b1,h1⟩:=bof ((bAt B k).s.can (lAt g.ls i).n)
        rw [e]
        repeat (first|(with_reducible first|apply X1|apply X8|apply Y9)|((with_reducible apply d_end);(simp;exact Rz))|((first|((with_reducible apply P1);rfl)|((with_reducible apply P2);rfl));(simp (disch:=omega) [hlt,hlt2,rd_old _ hll,hx1,hk3,hk2,hk.1,rd_old _ hrl,hk1];exact Rz);exact Rz;(focus (first|(simp;done)|omega|(simp;omega))))|((with_reducible apply Z8);(simp (disch:=omega) [hlt,hlt2,rd_old _ hll,hx1,hk3,hk2,hk.1,rd_old _ hrl,hk1];exact Rz)))
        (with_reducible apply d_call);(simp;exact Rz);exact c_r4shown _ (bAt B k).s _ hst h1;(focus (first|(simp;done)|(simp;omega)))
        cases b1 with
        | false =>
          repeat (first|(with_reducible first|apply X1|apply X2|apply X3|apply X8|apply X9|apply Y3|apply Y5)|((with_reducible first|apply e_end|apply d_end);(simp;exact Rz))|((first|((with_reducible apply O1);rfl)|((with_reducible apply P1);rfl));(simp (disch:=omega);exact Rz);exact Rz;(focus (first|(simp;done)|omega|(simp;omega))))|((with_reducible first|apply Z8|apply Z9);(simp (disch:=omega);exact Rz)))
          refine q_drop (.inr rfl) (by simp;exact Rz) (by simp) ⟨hno fun h=>by
            obtain⟨j,hj,he,hc⟩:=h.ld i hlt
            have:j=k:=by
              rcases Nat.lt_trichotomy j k with h4|h4|h4
              · have:=okB_lt hok h4 hk.1;have:=hk.2;omega
              · exact h4
              · have:=okB_lt hok h4 hj;have:=hk.2;omega
            subst this
            exact absurd (h1.2 hc) (by decide),rfl⟩
        | true =>
          repeat (first|(with_reducible first|apply X2|apply X5|apply X8|apply Y2)|((with_reducible first|apply e_end|apply d_end);(simp;exact Rz))|((first|((with_reducible apply O1);rfl)|((with_reducible apply P1);rfl));(simp (disch:=omega);exact Rz);exact Rz;(focus (first|(simp;done)|omega|(simp;omega))))|((with_reducible apply Z8);(simp (disch:=omega);exact Rz))|((with_reducible apply W3);(simp (disch:=omega);exact Rz)))
          refine q_again ⟨i+1,hlt,fun j hj=>?_⟩ (by dsimp only;omega) (.inl (by simp))
          rcases Nat.lt_or_ge j i with h|h
          · exact hgd j h
          · have:j=i:=by omega
            subst this;exact⟨k,hk.1,hk.2,h1.1 rfl⟩
    · have hlt2:¬ (i:Int)<g.ls.length:=by omega
      obtain rfl:i=g.ls.length:=by omega
      repeat (first|(with_reducible first|apply X1|apply X2|apply X4|apply X8|apply Y1|apply Y4|apply Y6)|((with_reducible apply e_end);(simp;exact Rz))|((with_reducible apply O1);rfl;(simp (disch:=omega) [hlt,hlt2];exact Rz);exact Rz;(focus (first|(simp;done)|omega|(simp;omega))))|((with_reducible apply W3);(simp (disch:=omega) [hlt,hlt2];exact Rz)))
      refine O1 rfl (RAt.len hg.l _ (by simp)) Rz trivial ?_
      by_cases h6:g.ls.length≤6
      · have h62:(g.ls.length:Int)≤6:=by omega
        repeat (first|((with_reducible apply O1);rfl;(simp (disch:=omega) [h6,h62];exact Rz);exact Rz;(focus (first|(simp;done)|omega|(simp;omega))))|((with_reducible apply Z7);(simp (disch:=omega) [h6,h62];exact Rz)))
        (with_reducible apply e_call);(simp;exact Rz);exact ki _
        rintro _ _ ⟨rfl,rfl⟩
        repeat (first|(with_reducible first|apply X3|apply X8)|((with_reducible apply e_end);(simp;exact Rz))|((with_reducible apply O1);rfl;(simp (disch:=omega);exact Rz);exact Rz;(focus (first|(simp;done)|omega|(simp;omega)))))
        refine q_drop (.inr rfl) (by simp;exact Rz) (by simp) ⟨by rw [AV.bool.injEq,Bool.eq_iff_iff,hb,hbi];exact⟨fun h=>⟨h6,hgd,h⟩,fun h=>h.ba⟩,rfl⟩
      · have h62:¬ (g.ls.length:Int)≤6:=by omega
        repeat (first|(with_reducible first|apply X3|apply X8)|((with_reducible apply e_end);(simp;exact Rz))|((with_reducible apply O1);rfl;(simp (disch:=omega) [h6,h62];exact Rz);exact Rz;(focus (first|(simp;done)|omega|(simp;omega))))|((with_reducible apply Z1);(simp (disch:=omega) [h6,h62];exact Rz)))
        refine q_drop (.inr rfl) (by simp;exact Rz) (by simp) ⟨hno fun h=>h6 h.len,rfl⟩
theorem c_r4Check (H:Heap) (B:List SP) (id off:Nat) (ex2:Bool) (hB:BayAt H id off B) (hn:(B.length:Int)<1000000) (g:Gr) (lv rv kv:AV) (hg:GAt H g lv rv kv) :
    ACalls Try.prog F.ref04_Check [.agg [.slice id off B.length 7 ex2],.agg (g.av lv rv kv)] H (fun v h'=>v=.int .i64 (chE B g)∧h'=H):=by
  have hrl:=rd_lt hB.rows
  have sl:∀ m,lv.sc (H.length+m)=true:=fun m=>RAt.sc hg.l (by omega)
  have sr:∀ m,rv.sc (H.length+m)=true:=fun m=>RAt.sc hg.r (by omega)
  have sk:∀ m,kv.sc (H.length+m)=true:=fun m=>RAt.sc hg.k (by omega)
  have sl0:=sl 0
  have sr0:=sr 0
  have sk0:=sk 0
  rw [Nat.add_zero] at sl0 sr0 sk0
  obtain⟨b1,h1⟩:=bof (okB B∧B.length≤4)
  obtain⟨b2,h2⟩:=bof (okG B g)
  have kg:=fun X hok=>c_r4Gear (H++X) B id off ex2 (hB.app X) hok hn g lv rv kv (hg.app X) h2
  simp only [Gr.av] at kg ⊢
  refine acalls_of ok_ref04_Check rfl fun hcl=>?_
  unfold ac_ref04_Check zo
  simp only [argsT,Nat.zero_add,Nat.reduceAdd]
  repeat (first|(with_reducible first|apply X1|apply X2|apply X8)|((with_reducible apply e_end);(simp;exact Rz))|((with_reducible apply O1);rfl;(simp (disch:=omega);exact Rz);exact Rz;(focus (first|(simp;done)|omega|(simp;omega)))))
  (with_reducible apply e_call);(simp;exact Rz);exact c_r4Bay _ B _ _ _ (hB.app _) hn h1
  rintro _ _ ⟨rfl,rfl⟩
  cases b1 with
  | false =>
    have e:chE B g=40:=by simp only [chE];rw [if_neg (fun h=>absurd (h1.2 h) (by decide))]
    repeat (first|(with_reducible first|apply X1|apply X2|apply X3|apply X8|apply X9)|((with_reducible apply e_end);(simp;exact Rz))|((with_reducible apply O1);rfl;(simp (disch:=omega);exact Rz);exact Rz;(focus (first|(simp;done)|omega|(simp;omega))))|((with_reducible apply Z9);(simp (disch:=omega);exact Rz)))
    refine q_drop (.inr rfl) (by simp;exact Rz) (by simp) ⟨by rw [e],rfl⟩
  | true =>
    repeat (first|(with_reducible first|apply X1|apply X2|apply X5|apply X8)|((with_reducible apply e_end);(simp;exact Rz))|((with_reducible apply O1);rfl;(simp (disch:=omega);exact Rz);exact Rz;(focus (first|(simp;done)|omega|(simp;omega))))|((with_reducible apply W3);(simp (disch:=omega);exact Rz)))
    (with_reducible apply e_call);(simp;exact Rz);exact kg _ (h1.1 rfl).1
    rintro _ _ ⟨rfl,rfl⟩
    cases b2 with
    | false =>
      have e:chE B g=41:=by simp only [chE];rw [if_pos (h1.1 rfl),if_neg (fun h=>absurd (h2.2 h) (by decide))]
      repeat (first|(with_reducible first|apply X1|apply X2|apply X3|apply X8|apply X9)|((with_reducible apply e_end);(simp;exact Rz))|((with_reducible apply O1);rfl;(simp (disch:=omega);exact Rz);exact Rz;(focus (first|(simp;done)|omega|(simp;omega))))|((with_reducible apply Z9);(simp (disch:=omega);exact Rz)))
      refine q_drop (.inr rfl) (by simp;exact Rz) (by simp) ⟨by rw [e],rfl⟩
    | true =>
      have e:chE B g=0:=by simp only [chE];rw [if_pos (h1.1 rfl),if_pos (h2.1 rfl)]
      repeat (first|(with_reducible first|apply X1|apply X2|apply X3|apply X5|apply X8)|((with_reducible apply e_end);(simp;exact Rz))|((with_reducible apply O1);rfl;(simp (disch:=omega);exact Rz);exact Rz;(focus (first|(simp;done)|omega|(simp;omega))))|((with_reducible apply W3);(simp (disch:=omega);exact Rz)))
      refine q_drop (.inr rfl) (by simp;exact Rz) (by simp) ⟨by rw [e],rfl⟩
end Go.Proofs
/- Scale: Great,by the reference. -/
namespace Go.Proofs
open Go.Abs
attribute [local simp] AOp.den AOpd.ev lk cellsOf rd_new rd_new0 rd_zero rd_succ wr_new wr_new0 wr_zero wr_succ splice fillA binA scal sliceCells List.length_append argsT AV.sc scL AObj.sc resV getAll AR.get AOp.slots opdSlots opdsSlots partSlots eqAt at_new0 at_new set_new0 set_new wrap64
set_option linter.unusedSimpArgs false
set_option linter.unusedVariables false
def grt (B:List SP) (g:Gr):Prop:=8<B.length∨10<g.ls.length∨12<g.rs.length∨12<g.ks.length∨∃ i,i<B.length∧10<(bAt B i).s.ts.length
set_option maxHeartbeats 2000000 in
theorem c_r4Great (H:Heap) (B:List SP) (id off:Nat) (ex2:Bool) (hB:rd H id off (B.length * 7)=some (B.flatMap SP.av)) (g:Gr) (lv rv kv:AV) (hl:LdAt H lv g.ls) (hr:IAt H rv g.rs) (hk:IAt H kv g.ks) {b:Bool} (hb:b=true↔grt B g) :
    ACalls Try.prog F.ref04_Great [.agg [.slice id off B.length 7 ex2],.agg (g.av lv rv kv)] H (fun v h'=>v=.bool b∧h'=H):=by
  have hyes:grt B g→AV.bool true=.bool b:=fun h=>by rw [AV.bool.injEq];exact (hb.2 h).symm
  have hrl:=rd_lt hB
  have sl:∀ m,lv.sc (H.length+m)=true:=fun m=>RAt.sc hl (by omega)
  have sr:∀ m,rv.sc (H.length+m)=true:=fun m=>RAt.sc hr (by omega)
  have sk:∀ m,kv.sc (H.length+m)=true:=fun m=>RAt.sc hk (by omega)
  have sl0:=sl 0
  have sr0:=sr 0
  have sk0:=sk 0
  rw [Nat.add_zero] at sl0 sr0 sk0
  simp only [Gr.av]
  refine acalls_of ok_ref04_Great rfl fun hcl=>?_
  unfold ac_ref04_Great zo
  simp only [argsT,Nat.zero_add,Nat.reduceAdd]
  repeat (first|(with_reducible first|apply X1|apply X2|apply X8)|((with_reducible apply e_end);(simp;exact Rz))|((with_reducible apply O1);rfl;(simp (disch:=omega);exact Rz);exact Rz;(focus (first|(simp;done)|omega|(simp;omega)))))
  by_cases h1:8<B.length
  · have h1':(8:Int)<B.length:=by omega
    repeat (first|(with_reducible first|apply X1|apply X2|apply X3|apply X8|apply X9)|((with_reducible apply e_end);(simp;exact Rz))|((with_reducible apply O1);rfl;(simp (disch:=omega) [h1,h1'];exact Rz);exact Rz;(focus (first|(simp;done)|omega|(simp;omega))))|((with_reducible apply Z9);(simp (disch:=omega) [h1,h1'];exact Rz))|((with_reducible apply Z2);(simp (disch:=omega) [h1,h1'];exact Rz)))
    refine q_drop (.inr rfl) (by simp;exact Rz) (by simp) ⟨hyes (.inl h1),rfl⟩
  have h1':¬ (8:Int)<B.length:=by omega
  repeat (first|((with_reducible apply O1);rfl;(simp (disch:=omega) [h1,h1'];exact Rz);exact Rz;(focus (first|(simp;done)|omega|(simp;omega))))|((with_reducible apply Z7);(simp (disch:=omega) [h1,h1'];exact Rz)))
  refine O1 rfl (RAt.len hl _ (by simp)) Rz trivial ?_
  by_cases h2:10<g.ls.length
  · have h2':(10:Int)<g.ls.length:=by omega
    repeat (first|(with_reducible first|apply X1|apply X2|apply X3|apply X8|apply X9)|((with_reducible apply e_end);(simp;exact Rz))|((with_reducible apply O1);rfl;(simp (disch:=omega) [h1,h1',h2,h2'];exact Rz);exact Rz;(focus (first|(simp;done)|omega|(simp;omega))))|((with_reducible first|apply Z7|apply Z9);(simp (disch:=omega) [h1,h1',h2,h2'];exact Rz))|((with_reducible apply Z2);(simp (disch:=omega) [h1,h1',h2,h2'];exact Rz)))
    refine q_drop (.inr rfl) (by simp;exact Rz) (by simp) ⟨hyes (.inr (.inl h2)),rfl⟩
  have h2':¬ (10:Int)<g.ls.length:=by omega
  repeat (first|((with_reducible apply O1);rfl;(simp (disch:=omega) [h1,h1',h2,h2'];exact Rz);exact Rz;(focus (first|(simp;done)|omega|(simp;omega))))|((with_reducible apply Z7);(simp (disch:=omega) [h1,h1',h2,h2'];exact Rz)))
  refine O1 rfl (RAt.len hr _ (by simp)) Rz trivial ?_
  by_cases h3:12<g.rs.length
  · have h3':(12:Int)<g.rs.length:=by omega
    repeat (first|(with_reducible first|apply X1|apply X2|apply X3|apply X8|apply X9)|((with_reducible apply e_end);(simp;exact Rz))|((with_reducible apply O1);rfl;(simp (disch:=omega) [h1,h1',h2,h2',h3,h3'];exact Rz);exact Rz;(focus (first|(simp;done)|omega|(simp;omega))))|((with_reducible first|apply Z7|apply Z9);(simp (disch:=omega) [h1,h1',h2,h2',h3,h3'];exact Rz))|((with_reducible apply Z2);(simp (disch:=omega) [h1,h1',h2,h2',h3,h3'];exact Rz)))
    refine q_drop (.inr rfl) (by simp;exact Rz) (by simp) ⟨hyes (.inr (.inr (.inl h3))),rfl⟩
  have h3':¬ (12:Int)<g.rs.length:=by omega
  repeat (first|((with_reducible apply O1);rfl;(simp (disch:=omega) [h1,h1',h2,h2',h3,h3'];exact Rz);exact Rz;(focus (first|(simp;done)|omega|(simp;omega))))|((with_reducible apply Z7);(simp (disch:=omega) [h1,h1',h2,h2',h3,h3'];exact Rz)))
  refine O1 rfl (RAt.len hk _ (by simp)) Rz trivial ?_
  by_cases h4:12<g.ks.length
  · have h4':(12:Int)<g.ks.length:=by omega
    repeat (first|(with_reducible first|apply X1|apply X2|apply X3|apply X8|apply X9)|((with_reducible apply e_end);(simp;exact Rz))|((with_reducible apply O1);rfl;(simp (disch:=omega) [h1,h1',h2,h2',h3,h3',h4,h4'];exact Rz);exact Rz;(focus (first|(simp;done)|omega|(simp;omega))))|((with_reducible first|apply Z7|apply Z9);(simp (disch:=omega) [h1,h1',h2,h2',h3,h3',h4,h4'];exact Rz)))
    refine q_drop (.inr rfl) (by simp;exact Rz) (by simp) ⟨hyes (.inr (.inr (.inr (.inl h4)))),rfl⟩
  have h4':¬ (12:Int)<g.ks.length:=by omega
  repeat (first|(with_reducible first|apply X1|apply X2|apply X5|apply X6|apply X8)|((with_reducible apply e_end);(simp;exact Rz))|((with_reducible apply O1);rfl;(simp (disch:=omega) [h1,h1',h2,h2',h3,h3',h4,h4'];exact Rz);exact Rz;(focus (first|(simp;done)|omega|(simp;omega))))|((with_reducible apply Z7);(simp (disch:=omega) [h1,h1',h2,h2',h3,h3',h4,h4'];exact Rz))|((with_reducible apply W3);(simp (disch:=omega) [h1,h1',h2,h2',h3,h3',h4,h4'];exact Rz)))
  refine e_loop (ι:={ i:Nat // i≤B.length∧∀ j,j<i→¬ 10<(bAt B j).s.ts.length }) (fun i=>[(2,.ptr H.length 0),(5,.int .i64 i.1)]) (fun _=>H++[.cells [.slice id off B.length 7 ex2] true,.cells [lv,.int .i64 g.added,.int .i64 g.base,.int .i64 g.jit,rv,kv,.int .i64 g.spread,.bool g.stamp] true]) (fun i=>B.length-i.1) ⟨0,by simp⟩ ?_ ?_
  · exact .inl (by simp)
  · rintro⟨i,hi,hg⟩
    dsimp only
    by_cases hlt:i<B.length
    · have hlt2:(i:Int)<B.length:=by omega
      have hrow:=rd_row SP.av_length hB hlt
      rw [← bAt_eq hlt] at hrow
      have hr6:rd H id (off+i * 7+6) 1=some [.slice (bAt B i).tid (bAt B i).toff (bAt B i).s.ts.length 2 (bAt B i).ex]:=by have:=rd_sub' hrow 6 1 (by omega);simpa [SP.av,Sc.av] using this
      have hm0:i * 7+7≤B.length * 7:=by omega
      by_cases h5:10<(bAt B i).s.ts.length
      · have h5':(10:Int)<(bAt B i).s.ts.length:=by omega
        repeat (first|(with_reducible first|apply X1|apply X2|apply X3|apply X5|apply X6|apply X8|apply X9|apply Y3|apply Y5)|((with_reducible apply e_end);(simp;exact Rz))|((with_reducible apply O1);rfl;(simp (disch:=omega) [hlt,hlt2,rd_old _ hrl,hr6,h5,h5'];exact Rz);exact Rz;(focus (first|(simp;done)|omega|(simp;omega))))|((with_reducible apply Z9);(simp (disch:=omega) [hlt,hlt2,rd_old _ hrl,hr6,h5,h5'];exact Rz)))
        refine q_drop (.inr rfl) (by simp;exact Rz) (by simp) ⟨hyes (.inr (.inr (.inr (.inr ⟨i,hlt,h5⟩)))),rfl⟩
      · have h5':¬ (10:Int)<(bAt B i).s.ts.length:=by omega
        repeat (first|(with_reducible first|apply X1|apply X2|apply X5|apply X6|apply X8|apply Y2)|((with_reducible apply e_end);(simp;exact Rz))|((with_reducible apply O1);rfl;(simp (disch:=omega) [hlt,hlt2,rd_old _ hrl,hr6,h5,h5'];exact Rz);exact Rz;(focus (first|(simp;done)|omega|(simp;omega))))|((with_reducible apply Z9);(simp (disch:=omega) [hlt,hlt2,rd_old _ hrl,hr6,h5,h5'];exact Rz))|((with_reducible apply W3);(simp (disch:=omega) [hlt,hlt2,rd_old _ hrl,hr6,h5,h5'];exact Rz)))
        refine q_again ⟨i+1,hlt,fun j hj=>?_⟩ (by dsimp only;omega) (.inl (by simp))
        rcases Nat.lt_or_ge j i with h|h
        · exact hg j h
        · have:j=i:=by omega
          subst this;exact h5
    · have hlt2:¬ (i:Int)<B.length:=by omega
      obtain rfl:i=B.length:=by omega
      have hno:¬ grt B g:=by
        rintro (h|h|h|h|⟨i,h,h'⟩)
        · exact h1 h
        · exact h2 h
        · exact h3 h
        · exact h4 h
        · exact hg i h h'
      repeat (first|(with_reducible first|apply X1|apply X2|apply X3|apply X4|apply X8|apply Y1|apply Y4|apply Y6)|((with_reducible apply e_end);(simp;exact Rz))|((with_reducible apply O1);rfl;(simp (disch:=omega) [hlt2];exact Rz);exact Rz;(focus (first|(simp;done)|omega|(simp;omega))))|((with_reducible apply W3);(simp (disch:=omega) [hlt2];exact Rz)))
      refine q_drop (.inr rfl) (by simp;exact Rz) (by simp) ⟨by rw [AV.bool.injEq];cases b;rfl;exact absurd (hb.1 rfl) hno,rfl⟩
end Go.Proofs
