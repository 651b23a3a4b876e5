/- Several texts as one. -/
import Derived.Test.YtgaojjbkaoankaaPC
import Derived.Test.YtgaojjbkaoankaaAcQ0
import Derived.Test.YtgaojjbkaoankaaPH
import Derived.Test.YtgaojjbkaoankaaRA
import Derived.Test.YtgaojjbkaoankaaKK
/- The reference's plans: what lacks,and whether hours are short. -/
namespace Go.Proofs
open Go.Abs
attribute [local simp] AOp.den AOpd.ev lk cellsOf rd_new rd_new0 rd_zero rd_succ wr_new wr_new0 wr_zero wr_succ splice fillA binA scal sliceCells List.length_append argsT AV.sc scL AObj.sc resV getAll AR.get AOp.slots opdSlots opdsSlots partSlots eqAt at_new0 at_new set_new0 set_new wrap64
set_option linter.unusedSimpArgs false
set_option linter.unusedVariables false
open Go.Hall
theorem bit_not (set h:Nat) (hs:set<256) (hh:h<8):decide (IntKind.i64.wrap ((((set:Int).fdiv (2 ^ min h IntKind.i64.bits) % 2 ^ IntKind.i64.bits).toNat &&& 1 % 2 ^ IntKind.i64.bits:Nat):Int)=0)=!set.testBit h:=by
  have e1:min h IntKind.i64.bits=h:=by simp [IntKind.bits];omega
  have e2:(set:Int).fdiv (2 ^ h)=((set / 2 ^ h:Nat):Int):=by
    rw [Int.fdiv_eq_ediv_of_nonneg _ (by exact_mod_cast Nat.zero_le (2 ^ h))];simp
  have e3:set / 2 ^ h<256:=Nat.lt_of_le_of_lt (Nat.div_le_self _ _) hs
  have e4:(((set / 2 ^ h:Nat):Int) % 2 ^ IntKind.i64.bits).toNat=set / 2 ^ h:=by
    generalize set / 2 ^ h=q at *
    simp only [IntKind.bits];omega
  have e5:1 % 2 ^ IntKind.i64.bits=1:=by simp [IntKind.bits]
  rw [e1,e2,e4,e5,Nat.and_one_is_mod,Nat.testBit_eq_decide_div_mod_eq]
  rcases Nat.mod_two_eq_zero_or_one (set / 2 ^ h) with h1|h1 <;> rw [h1] <;> decide
theorem c_r2lacks (H:Heap) (nid noff mid moff m:Nat) (nex mex:Bool) (need:Nat→Int) (may:Nat→Bool) (set M:Nat) (hm:m≤M) (hM:M≤8) (hs:set<256) (hn:∀ i,i<m→rd H nid (noff+i) 1=some [.int .i64 (need i)]) (hb:∀ i,i<m→-1000000000000≤need i∧need i≤1000000000000) (hy:∀ i,i<M→rd H mid (moff+i) 1=some [.bool (may i)]) :
    ACalls Try.prog F.ref02_lacks [.slice nid noff m 1 nex,.slice mid moff M 1 mex,.int .i64 set] H (fun v h'=>v=.int .i64 (lackT need (fun h=>may h && !set.testBit h) m)∧h'=H):=by
  refine acalls_of ok_ref02_lacks rfl fun hcl=>?_
  unfold ac_ref02_lacks zo
  simp only [argsT,Nat.zero_add,Nat.reduceAdd]
  repeat (first|(with_reducible first|apply X1|apply X2|apply X6|apply X8)|((with_reducible apply e_end);(simp;exact Rz))|((with_reducible apply O1);rfl;(simp (disch:=omega);exact Rz);exact Rz;(focus (first|(simp;done)|omega|(simp;omega)))))
  refine e_loop (ι:={ i:Nat // i≤m }) (fun i=>[(0,.slice nid noff m 1 nex),(1,.slice mid moff M 1 mex),(2,.int .i64 set),(7,.int .i64 (lackT need (fun h=>may h && !set.testBit h) i.1)),(8,.int .i64 (ct (fun h=>may h && !set.testBit h) i.1)),(9,.int .i64 i.1)])
    (fun _=>H) (fun i=>m-i.1) ⟨0,by simp⟩ ?_ ?_
  · exact .inl (by simp [lackT,ct,sm])
  · rintro⟨i,hi⟩
    dsimp only
    by_cases hlt:i<m
    · have hlt2:(i:Int)<m:=by omega
      have hltM:i<M:=by omega
      have hltM2:(i:Int)<M:=by omega
      have r1:=hn i hlt
      have r2:=hy i hltM
      have hbi:=hb i hlt
      have hb1:=ct_nonneg (fun h=>may h && !set.testBit h) i
      have hb2:=ct_top (fun h=>may h && !set.testBit h) i
      have hbt:=bit_not set i hs (by omega)
      have hl:lackT need (fun h=>may h && !set.testBit h) (i+1)=max (lackT need (fun h=>may h && !set.testBit h) i) (need i-ct (fun h=>may h && !set.testBit h) i):=rfl
      have hl2:(if lackT need (fun h=>may h && !set.testBit h) i<need i-ct (fun h=>may h && !set.testBit h) i then need i-ct (fun h=>may h && !set.testBit h) i else lackT need (fun h=>may h && !set.testBit h) i)=lackT need (fun h=>may h && !set.testBit h) (i+1):=by rw [hl];split <;> omega
      have hc:ct (fun h=>may h && !set.testBit h) (i+1)=ct (fun h=>may h && !set.testBit h) i+if (may i && !set.testBit i)=true then 1 else 0:=rfl
      cases hmay:may i with
      | false =>
        rw [hmay] at r2 hc
        simp at hc
        repeat (first|(with_reducible first|apply X1|apply X2|apply X5|apply X6|apply X8|apply Y2)|((with_reducible apply e_end);(simp;exact Rz))|((with_reducible apply O1);rfl;(simp (disch:=omega) [hlt,hlt2,hltM,hltM2,r1,r2];exact Rz);exact Rz;(focus (first|(simp;done)|omega|(simp;omega))))|((with_reducible apply Z9);(simp (disch:=omega) [hlt,hlt2,hltM,hltM2,r1,r2];exact Rz))|((with_reducible apply Z1);(simp (disch:=omega) [hlt,hlt2,hltM,hltM2,r1,r2];exact Rz))|((with_reducible apply W3);(simp (disch:=omega) [hlt,hlt2,hltM,hltM2,r1,r2];exact Rz)))
        exact q_again ⟨i+1,by omega⟩ (by dsimp only;omega) (.inl (by simp [hl2,hc]))
      | true =>
        rw [hmay] at r2 hc
        repeat (first|(with_reducible first|apply X1|apply X2|apply X5|apply X6|apply X8)|((with_reducible apply e_end);(simp;exact Rz))|((with_reducible apply O1);rfl;(simp (disch:=omega) [hlt,hlt2,hltM,hltM2,r1,r2];exact Rz);exact Rz;(focus (first|(simp;done)|omega|(simp;omega))))|((with_reducible first|apply Z7|apply Z9);(simp (disch:=omega) [hlt,hlt2,hltM,hltM2,r1,r2];exact Rz)))
        rw [hbt]
        cases hbit:set.testBit i with
        | true =>
          rw [hbit] at hc
          simp at hc
          repeat (first|(with_reducible first|apply X2|apply X5|apply X8|apply Y2)|((with_reducible apply e_end);(simp;exact Rz))|((with_reducible apply O1);rfl;(simp (disch:=omega);exact Rz);exact Rz;(focus (first|(simp;done)|omega|(simp;omega))))|((with_reducible apply W3);(simp (disch:=omega);exact Rz)))
          exact q_again ⟨i+1,by omega⟩ (by dsimp only;omega) (.inl (by simp [hl2,hc]))
        | false =>
          rw [hbit] at hc
          simp at hc
          repeat (first|(with_reducible first|apply X2|apply X8|apply Y2)|((with_reducible apply e_end);(simp;exact Rz))|((with_reducible apply O1);rfl;(simp (disch:=omega);exact Rz);exact Rz;(focus (first|(simp;done)|omega|(simp;omega))))|((with_reducible apply Z9);(simp (disch:=omega);exact Rz)))
          exact q_again ⟨i+1,by omega⟩ (by dsimp only;omega) (.inl (by simp [hl2,hc]))
    · have hlt2:¬ (i:Int)<m:=by omega
      obtain rfl:i=m:=by omega
      repeat (first|(with_reducible first|apply X1|apply X2|apply X3|apply X4|apply X8|apply Y1|apply Y4|apply Y6)|((with_reducible apply e_end);(simp;exact Rz))|((with_reducible apply O1);rfl;(simp (disch:=omega) [hlt2];exact Rz);exact Rz;(focus (first|(simp;done)|omega|(simp;omega))))|((with_reducible apply W3);(simp (disch:=omega) [hlt2];exact Rz)))
      exact q_stay (.inr rfl) (by simp;exact Rz) ⟨rfl,rfl⟩
def MAt (H:Heap) (v:AV) (n m:Nat) (f:Nat→Nat→AV):Prop :=
  ∃ id off ex,v=.slice id off n 1 ex∧id<H.length∧∀ k,k<n→∃ rid roff rex,rd H id (off+k) 1=some [.slice rid roff m 1 rex]∧rid<H.length∧∀ i,i<m→rd H rid (roff+i) 1=some [f k i]
theorem MAt.app {H:Heap} {v:AV} {n m:Nat} {f:Nat→Nat→AV} (h:MAt H v n m f) (G:Heap):MAt (H++G) v n m f:=by
  obtain⟨id,off,ex,h1,h2,h3⟩:=h
  refine⟨id,off,ex,h1,by simp;omega,fun k hk=>?_⟩
  obtain⟨rid,roff,rex,a1,a2,a3⟩:=h3 k hk
  exact⟨rid,roff,rex,by rw [rd_old _ h2];exact a1,by simp;omega,fun i hi=>by rw [rd_old _ a2];exact a3 i hi⟩
def NAt (H:Heap) (v:AV) (n:Nat) (f:Nat→AV):Prop:=∃ id off ex,v=.slice id off n 1 ex∧id<H.length∧∀ k,k<n→rd H id (off+k) 1=some [f k]
theorem NAt.app {H:Heap} {v:AV} {n:Nat} {f:Nat→AV} (h:NAt H v n f) (G:Heap):NAt (H++G) v n f:=by
  obtain⟨id,off,ex,h1,h2,h3⟩:=h
  exact⟨id,off,ex,h1,by simp;omega,fun k hk=>by rw [rd_old _ h2];exact h3 k hk⟩
def shortF (N m M:Nat) (need:Nat→Nat→Int) (may:Nat→Nat→Bool) (hands:Nat→Int) (set:Nat):Bool :=
  decide (sm (fun h=>if set.testBit h=true then hands h else 0) M<sm (fun s=>lackT (need s) (fun h=>may h s && !set.testBit h) m) N)
set_option maxHeartbeats 1000000 in
theorem c_r2short (H:Heap) (nv mv hv:AV) (N m M:Nat) (need:Nat→Nat→Int) (may:Nat→Nat→Bool) (hands:Nat→Int) (set:Nat) (hN:N≤100) (hm:m≤M) (hM:M≤8) (hs:set<256) (hn:MAt H nv N m fun s i=>.int .i64 (need s i)) (hb:∀ s i,s<N→i<m→-1000000≤need s i∧need s i≤1000000)
    (hy:MAt H mv N M fun s h=>.bool (may h s)) (hh:NAt H hv M fun h=>.int .i64 (hands h)) (hhb:∀ h,h<M→-1000000≤hands h∧hands h≤1000000) :
    ACalls Try.prog F.ref02_short [nv,mv,hv,.int .i64 set] H (fun v h'=>v=.bool (shortF N m M need may hands set)∧h'=H):=by
  obtain⟨nid,noff,nex,rfl,n2,n3⟩:=hn
  obtain⟨mid,moff,mex,rfl,m2,m3⟩:=hy
  obtain⟨hid,hoff,hex,rfl,h2,h3⟩:=hh
  have lb:∀ s,s<N→0≤lackT (need s) (fun h=>may h s && !set.testBit h) m∧lackT (need s) (fun h=>may h s && !set.testBit h) m≤1000000:=fun s hs=>⟨lackT_nonneg _ _ _,lackT_le (by omega) fun d hd=>by
    have a1:=(hb s d hs hd).2
    have a2:=ct_nonneg (fun h=>may h s && !set.testBit h) d
    omega⟩
  have sb:∀ k,k≤N→0≤sm (fun s=>lackT (need s) (fun h=>may h s && !set.testBit h) m) k∧sm (fun s=>lackT (need s) (fun h=>may h s && !set.testBit h) m) k≤1000000 * k:=fun k=>by
    induction k with
    | zero=>intro _;simp [sm]
    | succ k ih =>
      intro hk
      have a1:=ih (by omega)
      have a2:=lb k (by omega)
      simp only [sm];omega
  have tb:∀ k,k≤M→-1000000 * (k:Int)≤sm (fun h=>if set.testBit h=true then hands h else 0) k∧sm (fun h=>if set.testBit h=true then hands h else 0) k≤1000000 * k:=fun k=>by
    induction k with
    | zero=>intro _;simp [sm]
    | succ k ih =>
      intro hk
      have a1:=ih (by omega)
      have a2:=hhb k (by omega)
      simp only [sm];split <;> omega
  refine acalls_of ok_ref02_short rfl fun hcl=>?_
  unfold ac_ref02_short zo
  simp only [argsT,Nat.zero_add,Nat.reduceAdd]
  repeat (first|(with_reducible first|apply X1|apply X2|apply X6|apply X8)|((with_reducible apply e_end);(simp;exact Rz))|((with_reducible apply O1);rfl;(simp (disch:=omega);exact Rz);exact Rz;(focus (first|(simp;done)|omega|(simp;omega)))))
  refine e_loop (ι:={ i:Nat // i≤N }) (fun i=>[(0,.slice nid noff N 1 nex),(1,.slice mid moff N 1 mex),(2,.slice hid hoff M 1 hex),(3,.int .i64 set),(9,.int .i64 (sm (fun s=>lackT (need s) (fun h=>may h s && !set.testBit h) m) i.1)),(10,.int .i64 i.1)])
    (fun _=>H) (fun i=>N-i.1) ⟨0,by simp⟩ ?_ ?_
  · exact .inl (by simp [sm])
  · rintro⟨i,hi⟩
    dsimp only
    by_cases hlt:i<N
    · have hlt2:(i:Int)<N:=by omega
      obtain⟨a1,a2,a3,r1,r2,r3⟩:=n3 i hlt
      obtain⟨b1,b2,b3,q1,q2,q3⟩:=m3 i hlt
      have kl:=c_r2lacks H a1 a2 b1 b2 m a3 b3 (need i) (fun h=>may h i) set M hm hM hs r3 (fun k hk=>by have:=hb i k hlt hk;omega) q3
      have s1:=sb i hi
      have s2:=lb i hlt
      have s3:sm (fun s=>lackT (need s) (fun h=>may h s && !set.testBit h) m) (i+1)=sm (fun s=>lackT (need s) (fun h=>may h s && !set.testBit h) m) i+lackT (need i) (fun h=>may h i && !set.testBit h) m:=rfl
      repeat (first|(with_reducible first|apply X1|apply X2|apply X5|apply X6|apply X8|apply Y9)|((with_reducible apply e_end);(simp;exact Rz))|((first|((with_reducible apply O1);rfl)|((with_reducible apply P1);rfl)|((with_reducible apply P2);rfl));(simp (disch:=omega) [hlt,hlt2,r1,q1];exact Rz);exact Rz;(focus (first|(simp;done)|omega|(simp;omega))))|((with_reducible apply Z9);(simp (disch:=omega) [hlt,hlt2,r1,q1];exact Rz)))
      (with_reducible apply d_call);(simp;exact Rz);exact kl;(focus (first|(simp;done)|(simp;omega)))
      repeat (first|(with_reducible first|apply X2|apply X8|apply Y2)|((with_reducible first|apply e_end|apply d_end);(simp;exact Rz))|((first|((with_reducible apply O1);rfl)|((with_reducible apply P1);rfl));(simp (disch:=omega);exact Rz);exact Rz;(focus (first|(simp;done)|omega|(simp;omega)))))
      exact q_again ⟨i+1,hlt⟩ (by dsimp only;omega) (.inl (by simp [s3]))
    · have hlt2:¬ (i:Int)<N:=by omega
      obtain rfl:i=N:=by omega
      have s1:=sb i (Nat.le_refl _)
      repeat (first|(with_reducible first|apply X1|apply X2|apply X4|apply X6|apply X8|apply Y1|apply Y4|apply Y6)|((with_reducible apply e_end);(simp;exact Rz))|((with_reducible apply O1);rfl;(simp (disch:=omega) [hlt2];exact Rz);exact Rz;(focus (first|(simp;done)|omega|(simp;omega))))|((with_reducible apply W3);(simp (disch:=omega) [hlt2];exact Rz)))
      refine e_loop (ι:={ k:Nat // k≤M }) (fun k=>[(2,.slice hid hoff M 1 hex),(3,.int .i64 set),(9,.int .i64 (sm (fun s=>lackT (need s) (fun h=>may h s && !set.testBit h) m) i-sm (fun h=>if set.testBit h=true then hands h else 0) k.1)),(11,.int .i64 k.1)])
        (fun _=>H) (fun k=>M-k.1) ⟨0,by simp⟩ ?_ ?_
      · exact .inl (by simp [sm])
      · rintro⟨k,hk⟩
        dsimp only
        by_cases hkl:k<M
        · have hkl2:(k:Int)<M:=by omega
          have t1:=tb k hk
          have t2:=hhb k hkl
          have r1:=h3 k hkl
          have hbt:=bit_has set k hs (by omega)
          have t3:sm (fun h=>if set.testBit h=true then hands h else 0) (k+1)=sm (fun h=>if set.testBit h=true then hands h else 0) k+if set.testBit k=true then hands k else 0:=rfl
          repeat (first|(with_reducible first|apply X1|apply X2|apply X5|apply X6|apply X8)|((with_reducible apply e_end);(simp;exact Rz))|((with_reducible apply O1);rfl;(simp (disch:=omega) [hkl,hkl2];exact Rz);exact Rz;(focus (first|(simp;done)|omega|(simp;omega))))|((with_reducible apply Z9);(simp (disch:=omega) [hkl,hkl2];exact Rz)))
          rw [hbt]
          cases hbit:set.testBit k with
          | true =>
            rw [hbit,if_pos rfl] at t3
            repeat (first|(with_reducible first|apply X2|apply X8|apply Y2)|((with_reducible apply e_end);(simp;exact Rz))|((with_reducible apply O1);rfl;(simp (disch:=omega) [hkl,hkl2,r1];exact Rz);exact Rz;(focus (first|(simp;done)|omega|(simp;omega))))|((with_reducible apply Z9);(simp (disch:=omega) [hkl,hkl2,r1];exact Rz)))
            refine q_again ⟨k+1,hkl⟩ (by dsimp only;omega) (.inl ?_)
            rw [t3]
            simp [Int.sub_sub]
          | false =>
            rw [hbit] at t3
            simp only [Bool.false_eq_true,if_false,Int.add_zero] at t3
            repeat (first|(with_reducible first|apply X2|apply X5|apply X8|apply Y2)|((with_reducible apply e_end);(simp;exact Rz))|((with_reducible apply O1);rfl;(simp (disch:=omega);exact Rz);exact Rz;(focus (first|(simp;done)|omega|(simp;omega))))|((with_reducible apply W3);(simp (disch:=omega);exact Rz)))
            refine q_again ⟨k+1,hkl⟩ (by dsimp only;omega) (.inl ?_)
            rw [t3]
            simp
        · have hkl2:¬ (k:Int)<M:=by omega
          obtain rfl:k=M:=by omega
          have t1:=tb k (Nat.le_refl _)
          repeat (first|(with_reducible first|apply X1|apply X2|apply X3|apply X4|apply X8|apply Y1|apply Y4|apply Y6)|((with_reducible apply e_end);(simp;exact Rz))|((with_reducible apply O1);rfl;(simp (disch:=omega) [hkl2];exact Rz);exact Rz;(focus (first|(simp;done)|omega|(simp;omega))))|((with_reducible apply W3);(simp (disch:=omega) [hkl2];exact Rz)))
          exact q_stay (.inr rfl) (by simp;exact Rz) ⟨by simp only [shortF],rfl⟩
open Go.Hall
theorem shl_one (M:Nat) (hM:M≤8):IntKind.i64.wrap (2 ^ min M IntKind.i64.bits)=((2 ^ M:Nat):Int):=by
  have:M=0∨M=1∨M=2∨M=3∨M=4∨M=5∨M=6∨M=7∨M=8:=by omega
  rcases this with rfl|rfl|rfl|rfl|rfl|rfl|rfl|rfl|rfl <;> decide
def canF (N m M:Nat) (need:Nat→Nat→Int) (may:Nat→Nat→Bool) (hands:Nat→Int):Prop:=∀ set,set<2 ^ M→shortF N m M need may hands set=false
set_option maxHeartbeats 1000000 in
theorem c_r2can (H:Heap) (nv mv hv:AV) (N m M:Nat) (need:Nat→Nat→Int) (may:Nat→Nat→Bool) (hands:Nat→Int) (hN:N≤100) (hm:m≤M) (hM:M≤8) (hn:MAt H nv N m fun s i=>.int .i64 (need s i)) (hb:∀ s i,s<N→i<m→-1000000≤need s i∧need s i≤1000000)
    (hy:MAt H mv N M fun s h=>.bool (may h s)) (hh:NAt H hv M fun h=>.int .i64 (hands h)) (hhb:∀ h,h<M→-1000000≤hands h∧hands h≤1000000) {b:Bool} (hbc:b=true↔canF N m M need may hands) :
    ACalls Try.prog F.ref02_can [nv,mv,hv] H (fun v h'=>v=.bool b∧h'=H):=by
  have ks:=fun set hs=>c_r2short H nv mv hv N m M need may hands set hN hm hM hs hn hb hy hh hhb
  have hpw:2 ^ M≤2 ^ 8:=Nat.pow_le_pow_right (by omega) hM
  have hpe:=shl_one M hM
  have nsc:nv.sc H.length=true:=by obtain⟨_,_,_,rfl,h2,_⟩:=hn;simp [AV.sc];exact h2
  have msc:mv.sc H.length=true:=by obtain⟨_,_,_,rfl,h2,_⟩:=hy;simp [AV.sc];exact h2
  obtain⟨hid,hoff,hex,rfl,h2,h3⟩:=hh
  obtain⟨pw,hpwe⟩:∃ pw,pw=2 ^ M:=⟨_,rfl⟩
  rw [← hpwe] at hpe hpw
  refine acalls_of ok_ref02_can rfl fun hcl=>?_
  unfold ac_ref02_can zo
  simp only [argsT,Nat.zero_add,Nat.reduceAdd]
  repeat (first|(with_reducible first|apply X1|apply X2|apply X6|apply X8)|((with_reducible apply e_end);(simp;exact Rz))|((with_reducible apply O1);rfl;(simp (disch:=omega);exact Rz);exact Rz;(focus (first|(simp;done)|omega|(simp;omega)))))
  refine e_loop (ι:={ i:Nat // i≤pw∧∀ set,set<i→shortF N m M need may hands set=false }) (fun i=>[(0,nv),(1,mv),(2,.slice hid hoff M 1 hex),(7,.int .i64 i.1)])
    (fun _=>H) (fun i=>pw-i.1) ⟨0,by simp⟩ ?_ ?_
  · exact .inl rfl
  · rintro⟨i,hi,hE⟩
    dsimp only
    by_cases hlt:i<pw
    · have hlt2:(i:Int)<pw:=by omega
      repeat (first|(with_reducible first|apply X1|apply X2|apply X5|apply X6|apply X8)|((with_reducible apply e_end);(simp;exact Rz))|((with_reducible apply O1);rfl;(simp (disch:=omega) [hpe,hlt,hlt2];exact Rz);exact Rz;(focus (first|(simp;done)|omega|(simp;omega))))|((with_reducible apply Z9);(simp (disch:=omega) [hpe,hlt,hlt2];exact Rz)))
      (with_reducible apply e_call);(simp;exact Rz);exact ks i (by omega)
      rintro _ _ ⟨rfl,rfl⟩
      cases hsh:shortF N m M need may hands i with
      | true =>
        have hbf:b=false:=by
          cases b with
          | false=>rfl
          | true =>
            have:=hbc.1 rfl i (by omega)
            rw [hsh] at this;cases this
        repeat (first|(with_reducible first|apply X1|apply X2|apply X3|apply X8|apply X9|apply Y3|apply Y5)|((with_reducible apply e_end);(simp;exact Rz))|((with_reducible apply O1);rfl;(simp (disch:=omega);exact Rz);exact Rz;(focus (first|(simp;done)|omega|(simp;omega))))|((with_reducible apply Z9);(simp (disch:=omega);exact Rz)))
        exact q_stay (.inr rfl) (by simp;exact Rz) ⟨by rw [hbf],rfl⟩
      | false =>
        repeat (first|(with_reducible first|apply X2|apply X5|apply X8|apply Y2)|((with_reducible apply e_end);(simp;exact Rz))|((with_reducible apply O1);rfl;(simp (disch:=omega);exact Rz);exact Rz;(focus (first|(simp;done)|omega|(simp;omega))))|((with_reducible apply W3);(simp (disch:=omega);exact Rz)))
        refine q_again ⟨i+1,hlt,fun set hs=>?_⟩ (by dsimp only;omega) (.inl (by simp))
        by_cases e:set=i
        · rw [e];exact hsh
        · exact hE set (by omega)
    · have hlt2:¬ (i:Int)<pw:=by omega
      have hbt:b=true:=hbc.2 fun set hs=>hE set (by omega)
      repeat (first|(with_reducible first|apply X1|apply X2|apply X3|apply X4|apply X8|apply Y1|apply Y4|apply Y6)|((with_reducible apply e_end);(simp;exact Rz))|((with_reducible apply O1);rfl;(simp (disch:=omega) [hpe,hlt,hlt2];exact Rz);exact Rz;(focus (first|(simp;done)|omega|(simp;omega))))|((with_reducible apply W3);(simp (disch:=omega) [hpe,hlt,hlt2];exact Rz)))
      exact q_stay (.inr rfl) (by simp;exact Rz) ⟨by rw [hbt],rfl⟩
theorem c_r2less (H:Heap) (nid noff m:Nat) (nex:Bool) (f:Nat→Int) (hm:m≤8) (hid:nid<H.length) (hn:∀ i,i<m→rd H nid (noff+i) 1=some [.int .i64 (f i)]) (hb:∀ i,i<m→-1000000≤f i∧f i≤1000000) :
    ACalls Try.prog F.ref02_less [.slice nid noff m 1 nex] H (fun v h'=>v=lsV H 1 m∧h'=H++lsO m (iv (tnL (fun i=>max 0 (f i-1)) m))):=by
  refine acalls_of ok_ref02_less rfl fun hcl=>?_
  unfold ac_ref02_less zo
  simp only [argsT,Nat.zero_add,Nat.reduceAdd]
  repeat (first|(with_reducible first|apply X1|apply X2|apply X6|apply X8)|((with_reducible apply e_end);(simp;exact Rz))|((with_reducible apply O1);rfl;(simp (disch:=omega);exact Rz);exact Rz;(focus (first|(simp;done)|omega|(simp;omega)))))
  refine e_loop (ι:={ x:Nat × Heap × AV // x.1≤m∧AAt (H++x.2.1) 1 x.2.2 (iv (tnL (fun i=>max 0 (f i-1)) x.1)) x.1∧∀ q,isId x.2.2 q→H.length≤q })
    (fun x=>[(0,.slice nid noff m 1 nex),(3,x.1.2.2),(4,.int .i64 x.1.1)])
    (fun x=>H++x.1.2.1) (fun x=>m-x.1.1) ⟨(0,[],.nilslice),by simp,AAt.nil _ _,fun q hq=>hq.elim⟩ ?_ ?_
  · exact .inl (by simp)
  · rintro⟨⟨i,G,lv⟩,hi,hl,hlq⟩
    dsimp only at hi hl hlq ⊢
    have hlv:=fun k=>hl.l.sc (m:=H.length+(G.length+k)) (by simp)
    obtain hlv0:lv.sc (H.length+G.length)=true:=hlv 0
    by_cases hlt:i<m
    · have hlt2:(i:Int)<m:=by omega
      have r1:=hn i hlt
      have hbi:=hb i hlt
      have hmx:(if 1<f i then f i-1 else 0)=max 0 (f i-1):=by split <;> omega
      repeat (first|(with_reducible first|apply X1|apply X2|apply X5|apply X6|apply X8)|((with_reducible apply e_end);(simp;exact Rz))|((with_reducible apply O1);rfl;(simp (disch:=omega) [hlt,hlt2,rd_old _ hid,r1,hmx];exact Rz);exact Rz;(focus (first|(simp;done)|omega|(simp;omega))))|((with_reducible apply Z9);(simp (disch:=omega) [hlt,hlt2,rd_old _ hid,r1,hmx];exact Rz)))
      refine e_appA (A:=H) (G:=G++[.cells [.int .i64 (max 0 (f i-1))] true]) (cs:=iv (tnL (fun i=>max 0 (f i-1)) i)) (n:=i) (m:=1) (new:=[.int .i64 (max 0 (f i-1))]) (by simp) (by simp;exact Rz) (by simp;exact Rz) (by have:=hl.app [.cells [.int .i64 (max 0 (f i-1))] true];simpa using this) (fun k hk=>hlq k hk) (by simp) (by simp) (by omega) (by omega) ?_
      intro G2 v2 f3 f4 f5 f6 f7
      have hv2:=fun k=>f3.l.sc (m:=H.length+(G2.length+k)) (by simp)
      obtain hv20:v2.sc (H.length+G2.length)=true:=hv2 0
      repeat (first|(with_reducible first|apply X2|apply X8|apply Y2)|((with_reducible apply e_end);(simp;exact Rz))|((with_reducible apply O1);rfl;(simp (disch:=omega);exact Rz);exact Rz;(focus (first|(simp;done)|omega|(simp;omega)))))
      refine q_again ⟨(i+1,G2,v2),hlt,?_,f4⟩ (by dsimp only;omega) (.inl (by simp))
      dsimp only
      rw [tnL_succ,iv_app];exact f3
    · have hlt2:¬ (i:Int)<m:=by omega
      obtain rfl:i=m:=by omega
      repeat (first|(with_reducible first|apply X1|apply X2|apply X3|apply X4|apply X8|apply Y1|apply Y4|apply Y6)|((with_reducible apply e_end);(simp;exact Rz))|((with_reducible apply O1);rfl;(simp (disch:=omega) [hlt2];exact Rz);exact Rz;(focus (first|(simp;done)|omega|(simp;omega))))|((with_reducible apply W3);(simp (disch:=omega) [hlt2];exact Rz)))
      exact q_post (v':=lsV H 1 i) (.inr rfl) (by simp;exact Rz) (le_ls (fun x=>x) (fun _ _=>rfl) (fun _ _ h=>h) (iv_plain _) hl (fun q hq=>hlq q hq)) ⟨rfl,rfl⟩
open Go.Hall
theorem c_r2loss (H:Heap) (c:Cv) (p:Plc) (n:Nat) (hp:CvAt H c p) (hc:c.ok n) (s h:Nat) (hs:s<c.bs.length) (hh:h<c.hs.length) :
    ACalls Try.prog F.ref02_loss [.agg (c.av p),.int .i64 s,.int .i64 h] H (fun v h'=>v=.agg [.int .i64 (lossF c (endT false c) s h),.int .i64 (lossF c (endT true c) s h)]∧h'=H):=by
  have hp1:=hp.t
  have hp2:=rd_lt hp.b
  have hp3:=rd_lt hp.h
  have hx:=hp.hour hh
  have hy:=hp.bed hs
  have bd:=loss_bd hc (endT_ok hc true) hs hh
  have bd2:=loss_bd hc (endT_ok hc false) hs hh
  simp only [lossF,end_melt,end_wear] at bd bd2 ⊢
  generalize c.b s=bb at *
  generalize c.h h=hr at *
  obtain⟨x1,x2,x3⟩:=bb
  obtain⟨z1,z2,z3,z4,z5⟩:=hr
  simp only [Bd.av,Hr.av] at hx hy
  simp only [Cv.av,tkF,if_true,Bool.false_eq_true,if_false] at bd bd2 ⊢
  refine acalls_of ok_ref02_loss rfl fun hcl=>?_
  unfold ac_ref02_loss zo
  simp only [argsT,Nat.zero_add,Nat.reduceAdd]
  repeat (first|(with_reducible first|apply X1|apply X2|apply X8|apply Y9)|((with_reducible apply e_end);(simp;exact Rz))|((first|((with_reducible apply O1);rfl)|((with_reducible apply P1);rfl)|((with_reducible apply P2);rfl)|((with_reducible apply P3);rfl));(simp (disch:=omega) [rd_old _ hp3,rd_old _ hp2,hx,hy,hh,hs];exact Rz);exact Rz;(focus (first|(simp;done)|omega|(simp;omega)))))
  (with_reducible apply d_do_);rfl;rfl;(simp (disch:=omega) [rd_old _ hp3,rd_old _ hp2,hx,hy,hh,hs];exact Rz);exact Rz
  · (first|(simp;done)|omega|(simp;omega))
  · (first|(simp;done)|omega|(simp;omega))
  · (first|(simp;done)|omega|(simp;omega))
  · simp [recheck,pr,AOp.sem,rd_old _ hp3,rd_old _ hp2,hx,hy,hh,hs]
  simp only [St.put]
  (with_reducible apply d_do_);rfl;rfl;(simp (disch:=omega) [rd_old _ hp3,rd_old _ hp2,hx,hy,hh,hs];exact Rz);exact Rz
  · (first|(simp;done)|omega|(simp;omega))
  · (first|(simp;done)|omega|(simp;omega))
  · (first|(simp;done)|omega|(simp;omega))
  · simp [recheck,pr,AOp.sem,rd_old _ hp3,rd_old _ hp2,hx,hy,hh,hs]
  simp only [St.put]
  repeat (first|(with_reducible first|apply X1|apply X2|apply X3|apply X8)|((with_reducible first|apply e_end|apply d_end);(simp;exact Rz))|((first|((with_reducible apply O1);rfl)|((with_reducible apply O2);rfl));(simp (disch:=omega);exact Rz);exact Rz;(focus (first|(simp;done)|omega|(simp;omega)))))
  refine q_drop (.inr rfl) (by simp;exact Rz) (by simp) ⟨rfl,rfl⟩
theorem c_r2asks (H:Heap) (c:Cv) (p:Plc) (hp:CvAt H c p) (h:Nat) (hh:h<c.hs.length) :
    ACalls Try.prog F.ref02_asks [.agg (c.av p),.int .i64 h] H (fun v h'=>v=.int .i64 (asks c h)∧h'=H):=by
  have hp1:=hp.t
  have hp2:=rd_lt hp.b
  have hp3:=rd_lt hp.h
  have hx:=rd_sub' (hp.hour hh) 2 1 (by omega)
  simp only [asks]
  generalize c.h h=hr at *
  obtain⟨z1,z2,z3,z4,z5⟩:=hr
  simp only [Cv.av,Hr.av,List.drop_succ_cons,List.drop_zero,List.take_succ_cons,List.take_zero] at *
  refine acalls_of ok_ref02_asks rfl fun hcl=>?_
  unfold ac_ref02_asks zo
  simp only [argsT,Nat.zero_add,Nat.reduceAdd]
  by_cases hz:0<z3
  · repeat (first|(with_reducible first|apply X1|apply X2|apply X3|apply X8|apply X9)|((with_reducible apply e_end);(simp;exact Rz))|((with_reducible apply O1);rfl;(simp (disch:=omega) [rd_old _ hp3,hx,hh,hz];exact Rz);exact Rz;(focus (first|(simp;done)|omega|(simp;omega))))|((with_reducible apply Z9);(simp (disch:=omega) [rd_old _ hp3,hx,hh,hz];exact Rz)))
    refine q_drop (.inr rfl) (by simp;exact Rz) (by simp) ⟨by simp [hz],rfl⟩
  · repeat (first|(with_reducible first|apply X1|apply X2|apply X3|apply X5|apply X8)|((with_reducible apply e_end);(simp;exact Rz))|((with_reducible apply O1);rfl;(simp (disch:=omega) [rd_old _ hp3,hx,hh,hz];exact Rz);exact Rz;(focus (first|(simp;done)|omega|(simp;omega))))|((with_reducible apply W3);(simp (disch:=omega) [rd_old _ hp3,hx,hh,hz];exact Rz)))
    refine q_drop (.inr rfl) (by simp;exact Rz) (by simp) ⟨by simp [hz],rfl⟩
set_option maxHeartbeats 4000000 in
theorem c_r2Needs (H:Heap) (l:List Str) (c:Cv) (p:Plc) (hp:CvAt H c p) (hc:c.ok l.length) (hv:validL l) :
    ACalls Try.prog F.ref02_Needs [.agg (c.av p)] H (fun v h'=>∃ (vs:Nat→AV) (G:Heap),v=.slice (H.length+1) 0 c.bs.length 1 true∧h'=H++.cells (c.av p) true :: .cells (rwV vs c.bs.length) true :: G∧Rows H (.cells (c.av p) true) c.bs.length (fun k=>tnL (ndR c k) c.hs.length) vs G):=by
  have hp1:=hp.t
  have hp2:=rd_lt hp.b
  have hp3:=rd_lt hp.h
  have h12:=hv.1
  have hlen:=hc.len
  have h8:=hc.hours
  have hru:=hc.rul
  simp only [Cv.ruled] at hru
  have kl:=fun G s h hs hh=>c_r2loss (H++G) c p _ (hp.app G) hc s h hs hh
  have ka:=fun G h hh=>c_r2asks (H++G) c p (hp.app G) h hh
  generalize hbx:AObj.cells (c.av p) true=box
  simp only [Cv.av] at *
  refine acalls_of ok_ref02_Needs rfl fun hcl=>?_
  unfold ac_ref02_Needs zo
  simp only [argsT,Nat.zero_add,Nat.reduceAdd]
  repeat (first|(with_reducible first|apply X1|apply X2|apply X6|apply X8)|((with_reducible apply e_end);(simp;exact Rz))|((with_reducible apply O1);rfl;(simp (disch:=omega);exact Rz);exact Rz;(focus (first|(simp;done)|omega|(simp;omega)))))
  rw [rwV_nil]
  rw [hbx]
  refine e_loop (ι:={ x:Nat × (Nat→AV) × Heap // x.1≤c.bs.length∧Rows H box c.bs.length (fun k=>if k<x.1 then tnL (ndR c k) c.hs.length else []) x.2.1 x.2.2 })
    (fun x=>[(1,.ptr H.length 0),(3,.slice (H.length+1) 0 c.bs.length 1 true),(4,.int .i64 x.1.1)])
    (fun x=>H++box :: AObj.cells (rwV x.1.2.1 c.bs.length) true :: x.1.2.2) (fun x=>c.bs.length-x.1.1) ⟨(0,fun _=>.nilslice,[]),by simp,Rows.nil _ _ _ _ (fun k _=>by simp)⟩ ?_ ?_
  · exact .inl rfl
  · rintro⟨⟨i,vs,G⟩,hi,hR⟩
    dsimp only at hi hR ⊢
    subst hbx
    by_cases hil:i<c.bs.length
    · have hil2:(i:Int)<c.bs.length:=by omega
      have hb0:=rd_sub' (hp.bed hil) 0 1 (by omega)
      simp only [Bd.av,List.drop_succ_cons,List.drop_zero,List.take_succ_cons,List.take_zero,Nat.add_zero] at hb0
      have hlo:(c.b i).lo=icF c i 0:=rfl
      repeat (first|(with_reducible first|apply X1|apply X2|apply X5|apply X6|apply X8)|((with_reducible apply e_end);(simp;exact Rz))|((with_reducible apply O1);rfl;(simp (disch:=omega) [hil,hil2,rd_old _ hp2,hb0];exact Rz);exact Rz;(focus (first|(simp;done)|omega|(simp;omega))))|((with_reducible apply Z9);(simp (disch:=omega) [hil,hil2,rd_old _ hp2,hb0];exact Rz)))
      refine e_loop (ι:={ x:Nat × (Nat→AV) × Heap // x.1≤c.hs.length∧Rows H (.cells [.slice p.tid p.toff p.tn 9 p.tex,.slice p.bid p.boff c.bs.length 3 p.bex,.slice p.hid p.hoff c.hs.length 5 p.hex,.int .i64 c.w1,.int .i64 c.w2,.int .i64 c.y1,.int .i64 c.y2,.int .i64 c.rate,.int .i64 c.lim,.int .i64 c.base] true) c.bs.length (fun k=>if k<i then tnL (ndR c k) c.hs.length else if k=i then tnL (ndR c i) x.1 else []) x.2.1 x.2.2 })
        (fun x=>[(1,.ptr H.length 0),(3,.slice (H.length+1) 0 c.bs.length 1 true),(4,.int .i64 i),(5,.int .i64 (icF c i x.1.1)),(6,.int .i64 (ndF c i x.1.1)),(7,.int .i64 x.1.1)])
        (fun x=>H++.cells [.slice p.tid p.toff p.tn 9 p.tex,.slice p.bid p.boff c.bs.length 3 p.bex,.slice p.hid p.hoff c.hs.length 5 p.hex,.int .i64 c.w1,.int .i64 c.w2,.int .i64 c.y1,.int .i64 c.y2,.int .i64 c.rate,.int .i64 c.lim,.int .i64 c.base] true :: AObj.cells (rwV x.1.2.1 c.bs.length) true :: x.1.2.2) (fun x=>c.hs.length-x.1.1) ⟨(0,vs,G),by simp,hR.congr fun k _=>by simp [tnL]⟩ ?_ ?_
      · exact .inl rfl
      · clear hR vs G
        rintro⟨⟨h,vs,G⟩,hh,hR⟩
        dsimp only at hh hR ⊢
        by_cases hlt:h<c.hs.length
        rotate_left
        · have hlt2:¬ (h:Int)<c.hs.length:=by omega
          obtain rfl:h=c.hs.length:=by omega
          repeat (first|(with_reducible first|apply X1|apply X2|apply X4|apply X8|apply Y1|apply Y2|apply Y4|apply Y6)|((with_reducible apply e_end);(simp;exact Rz))|((with_reducible apply O1);rfl;(simp (disch:=omega) [hlt,hlt2];exact Rz);exact Rz;(focus (first|(simp;done)|omega|(simp;omega))))|((with_reducible apply W3);(simp (disch:=omega) [hlt,hlt2];exact Rz)))
          refine q_again ⟨(i+1,vs,G),hil,hR.congr fun k hk=>?_⟩ (by dsimp only;omega) (.inl (by simp))
          by_cases h1:k<i
          · simp [h1,show k<i+1 by omega]
          · by_cases h2:k=i
            · simp [h2]
            · simp [h1,h2,show ¬ k<i+1 by omega]
        have hlt2:(h:Int)<c.hs.length:=by omega
        have kl1:=fun G=>kl G i h hil hlt
        have ka1:=fun G=>ka G h hlt
        have ib:=icF_bd hc hil (h:=h) (by omega)
        have ib2:=icF_bd hc hil (h:=h+1) (by omega)
        have lob:=(loss_bd hc (endT_ok hc true) hil hlt).2.2
        have ie:icF c i (h+1)=icF c i h-lossF c (endT true c) i h:=rfl
        have nb:=ndF_bd hc hil (h:=h) (by omega)
        have nb2:=ndF_bd hc hil (h:=h+1) (by omega)
        have ne:ndF c i (h+1)=max (ndF c i h) (laF (asks c h-icF c i (h+1)) c.y1):=rfl
        have ab:=asks_bd hc h
        repeat (first|(with_reducible first|apply X1|apply X2|apply X5|apply X6|apply X8)|((with_reducible apply e_end);(simp;exact Rz))|((with_reducible apply O1);rfl;(simp (disch:=omega) [hlt,hlt2];exact Rz);exact Rz;(focus (first|(simp;done)|omega|(simp;omega))))|((with_reducible apply Z9);(simp (disch:=omega) [hlt,hlt2];exact Rz)))
        (with_reducible apply e_call);(simp;exact Rz);exact kl1 _
        rintro _ _ ⟨rfl,rfl⟩
        repeat (first|(with_reducible first|apply X1|apply X6|apply X8)|((with_reducible apply e_end);(simp;exact Rz))|((with_reducible apply O1);rfl;(simp (disch:=omega);exact Rz);exact Rz;(focus (first|(simp;done)|omega|(simp;omega)))))
        rw [← ie]
        refine e_loop (ι:={ n:Nat // ndF c i h≤n∧(n:Int)≤ndF c i (h+1) })
          (fun n=>[(1,.ptr H.length 0),(3,.slice (H.length+1) 0 c.bs.length 1 true),(4,.int .i64 i),(5,.int .i64 (icF c i (h+1))),(6,.int .i64 n.1),(7,.int .i64 h)])
          (fun _=>H++.cells [.slice p.tid p.toff p.tn 9 p.tex,.slice p.bid p.boff c.bs.length 3 p.bex,.slice p.hid p.hoff c.hs.length 5 p.hex,.int .i64 c.w1,.int .i64 c.w2,.int .i64 c.y1,.int .i64 c.y2,.int .i64 c.rate,.int .i64 c.lim,.int .i64 c.base] true :: AObj.cells (rwV vs c.bs.length) true :: G) (fun n=>(ndF c i (h+1)).toNat-n.1) ⟨(ndF c i h).toNat,by omega,by omega⟩ ?_ ?_
        · refine .inl ?_
          have:((ndF c i h).toNat:Int)=ndF c i h:=by omega
          simp [this]
        · rintro⟨n,hn1,hn2⟩
          dsimp only
          have mb:=mul_bd (a:=(n:Int)) (b:=c.y1) (A:=20200) (B:=100) (by omega) (by omega) (by omega) (by omega)
          have lq:=la_le (x:=asks c h-icF c i (h+1)) (y:=c.y1) (n:=(n:Int)) (by omega) (by omega)
          rw [Int.mul_comm] at lq
          repeat (first|(with_reducible first|apply X1|apply Y9)|((first|((with_reducible apply P1);rfl)|((with_reducible apply P2);rfl));(simp (disch:=omega);exact Rz);exact Rz;(focus (first|(simp;done)|omega|(simp;omega)))))
          (with_reducible apply d_call);(simp;exact Rz);exact ka1 _;(focus (first|(simp;done)|(simp;omega)))
          by_cases hq:icF c i (h+1)+(n:Int) * c.y1<asks c h
          · repeat (first|(with_reducible first|apply X2|apply X5|apply X6|apply X8|apply Y2)|((with_reducible first|apply e_end|apply d_end);(simp;exact Rz))|((first|((with_reducible apply O1);rfl)|((with_reducible apply P1);rfl));(simp (disch:=omega) [hq];exact Rz);exact Rz;(focus (first|(simp;done)|omega|(simp;omega))))|((with_reducible apply Z9);(simp (disch:=omega) [hq];exact Rz)))
            refine q_again ⟨n+1,by omega,?_⟩ (by dsimp only;omega) (.inl (by simp))
            have:¬ laF (asks c h-icF c i (h+1)) c.y1≤(n:Int):=fun hle=>by have:=lq.1 hle;omega
            omega
          · have hle:=lq.2 (by omega)
            have hne:(n:Int)=ndF c i (h+1):=by omega
            have hrw:=rwV_at vs hil
            have hrl:=rwV_length vs c.bs.length
            have hle1:i+1≤c.bs.length:=by omega
            have hRh:=hR.at_ i hil
            simp only [Nat.lt_irrefl,if_false,if_true] at hRh
            rw [tnL_len] at hRh
            repeat (first|(with_reducible first|apply X2|apply X4|apply X8|apply Y1|apply Y4|apply Y6)|((with_reducible apply d_end);(simp;exact Rz))|((first|((with_reducible apply O1);rfl)|((with_reducible apply P1);rfl));(simp (disch:=omega) [hq,hil,hil2,hrw,hrl,hle1];exact Rz);exact Rz;(focus (first|(simp;done)|omega|(simp;omega))))|((with_reducible apply W3);(simp (disch:=omega) [hq,hil,hil2,hrw,hrl,hle1];exact Rz)))
            refine e_appA (A:=H++[.cells [AV.slice p.tid p.toff p.tn 9 p.tex,.slice p.bid p.boff c.bs.length 3 p.bex,.slice p.hid p.hoff c.hs.length 5 p.hex,.int .i64 c.w1,.int .i64 c.w2,.int .i64 c.y1,.int .i64 c.y2,.int .i64 c.rate,.int .i64 c.lim,.int .i64 c.base] true,.cells (rwV vs c.bs.length) true]) (G:=G++[.cells [.int .i64 (n:Int)] true])
              (cs:=iv (tnL (ndR c i) h)) (n:=h) (m:=1) (new:=[.int .i64 (n:Int)]) (by simp) (by simp;exact Rz) (by simp;exact Rz) (by have:=hRh.app [.cells [.int .i64 (n:Int)] true];simpa using this) (fun k hk=>by have:=hR.lo i hil k hk;simp;omega) (by simp) (by simp) (by omega) (by omega) ?_
            intro G2 v2 e3 e4 e5 e6 e7
            simp only [List.append_assoc,List.cons_append,List.nil_append] at e3 e4 e5 e6 e7 ⊢
            have e3':=e3
            obtain⟨_,⟨_,h0⟩|⟨id2,_,rfl,hh2⟩⟩:=e3'
            · omega
            have hput:=rwV_put vs hil (.slice id2 0 (h+1) 1 false)
            have hid2:H.length+2≤id2:=by have:=e4 id2 rfl;simpa using this
            have hid3:=e6 id2 rfl
            simp only [List.length_append,List.length_cons,List.length_nil] at hid3
            repeat (first|(with_reducible first|apply X2|apply X8|apply Y2)|((with_reducible apply e_end);(simp;exact Rz))|((first|((with_reducible apply O1);rfl)|((with_reducible apply O2);rfl));(simp (disch:=omega) [hil,hil2,hrl,hle1,-splice,hput];exact Rz);exact Rz;(focus (first|(simp;done)|omega|(simp;omega)))))
            refine q_again ⟨(h+1,updV vs i (.slice id2 0 (h+1) 1 false),G2),hlt,?_⟩ (by dsimp only;omega) (.inl (by simp [hne]))
            have old:∀ k,k<c.bs.length→∀ i,isId (vs k) i→i<H.length+(G.length+2):=fun k hk i hi=>by
              have:=(hR.at_ k hk).l.lt hi
              simp at this;omega
            refine⟨fun k hk=>?_,fun k hk q hq=>?_,fun k j hk hj hne q hq hq2=>?_⟩
            · by_cases hki:k=i
              · subst hki
                simp only [updV,if_true,Nat.lt_irrefl,if_false,tnL_succ,iv_app,List.length_append,tnL_len]
                have e9:ndR c k h=(n:Int):=by rw [hne];rfl
                rw [e9]
                refine e3.keep fun q hq=>get3 ?_
                have:id2=q:=hq
                omega
              · simp only [updV,if_neg hki]
                have:=hR.at_ k hk
                simp only [if_neg hki] at this
                refine this.keep fun q hq=>?_
                have l1:=hR.lo k hk q hq
                have l2:=old k hk q hq
                have l3:=hR.ne k i hk hil hki q hq
                rw [get3 (b':=AObj.cells (rwV vs c.bs.length) true) l1,e5 q (by simp;omega) l3,get4 l2]
            · by_cases hki:k=i
              · simp only [updV,if_pos hki] at hq
                have:id2=q:=hq
                omega
              · simp only [updV,if_neg hki] at hq
                exact hR.lo k hk q hq
            · by_cases hki:k=i
              · by_cases hji:j=i
                · omega
                · simp only [updV,if_pos hki,if_neg hji] at hq hq2
                  have:id2=q:=hq
                  have:=old j hj q hq2
                  omega
              · by_cases hji:j=i
                · simp only [updV,if_neg hki,if_pos hji] at hq hq2
                  have:id2=q:=hq2
                  have:=old k hk q hq
                  omega
                · simp only [updV,if_neg hki,if_neg hji] at hq hq2
                  exact hR.ne k j hk hj hne q hq hq2
    · have hil2:¬ (i:Int)<c.bs.length:=by omega
      obtain rfl:i=c.bs.length:=by omega
      repeat (first|(with_reducible first|apply X1|apply X2|apply X3|apply X4|apply X8|apply Y1|apply Y4|apply Y6)|((with_reducible apply e_end);(simp;exact Rz))|((with_reducible apply O1);rfl;(simp (disch:=omega) [hil2];exact Rz);exact Rz;(focus (first|(simp;done)|omega|(simp;omega))))|((with_reducible apply W3);(simp (disch:=omega) [hil2];exact Rz)))
      refine q_stay (.inr rfl) (by simp;exact Rz) ⟨vs,G,rfl,rfl,hR.congr fun k hk=>by simp [hk]⟩
open Go.Hall
def avB (f:Nat→Bool) (n:Nat):List AV:=(List.range n).map fun i=>.bool (f i)
theorem avB_len (f:Nat→Bool) (n:Nat):(avB f n).length=n:=by simp [avB]
theorem avB_zero (n:Nat):List.replicate n (AV.bool false)=avB (fun _=>false) n:=by
  induction n with
  | zero=>rfl
  | succ n ih=>rw [List.replicate_succ',ih];simp [avB,List.range_succ]
theorem avB_put {f g:Nat→Bool} {n i:Nat} {x:Bool} (hi:i<n) (hg:∀ j,g j=if j=i then x else f j):splice (avB f n) i [.bool x]=avB g n:=by
  apply List.ext_getElem
  · simp [splice,avB_len];omega
  · intro k h1 h2
    simp only [splice,List.length_cons,List.length_nil]
    rw [avB_len] at h2
    have e:∀ (f:Nat→Bool) (h:k<(avB f n).length),(avB f n)[k]=.bool (f k):=fun f h=>by simp [avB]
    rw [e g]
    rcases Nat.lt_trichotomy k i with h3|h3|h3
    · rw [List.getElem_append_left (by simp [avB_len];omega),List.getElem_append_left (by simp [avB_len];omega),List.getElem_take,e f,hg,if_neg (by omega)]
    · subst h3
      rw [List.getElem_append_left (by simp [avB_len];omega),List.getElem_append_right (by simp [avB_len];omega)]
      simp [avB_len,hg]
    · rw [List.getElem_append_right (by simp [avB_len];omega),List.getElem_drop]
      have:i+1+(k-((avB f n).take i++[AV.bool x]).length)=k:=by simp [avB_len];omega
      simp only [this,e f,hg,if_neg (show ¬ k=i by omega)]
theorem rd_cells {H:Heap} {id off n:Nat} {cs:List AV} {b:Bool} (hh:H[id]?=some (.cells cs b)) (ho:off+n≤cs.length):rd H id off n=some ((cs.drop off).take n):=by
  unfold rd
  simp only [hh]
  rw [if_pos ho]
theorem wr_cells {h:Heap} {id off:Nat} {cs:List AV} {v:AV} (hh:h[id]?=some (.cells cs true)) (ho:off+1≤cs.length):wr h id off [v]=some (h.set id (.cells (splice cs off [v]) true)):=by
  unfold wr
  rw [hh]
  simp [ho]
theorem rd_B {H:Heap} {id i n:Nat} {f:Nat→Bool} {b:Bool} (hh:H[id]?=some (.cells (avB f n) b)) (hi:i<n):rd H id i 1=some [.bool (f i)]:=by
  rw [rd_cells hh (by rw [avB_len];omega)]
  congr 1
  have e:(avB f n).drop i=.bool (f i) :: (avB f n).drop (i+1):=by
    rw [List.drop_eq_getElem_cons (by rw [avB_len];omega)];congr 1;simp [avB]
  rw [e];rfl
structure FR (H:Heap) (bx:List AV) (N M:Nat) (i:Nat) (f:Nat→Int) (g:Nat→Nat→Bool) (X:Heap):Prop where
  len:X.length=H.length+3+i
  pre:∀ j,j<H.length→X[j]?=H[j]?
  box:X[H.length]?=some (.cells bx true)
  hd:X[H.length+1]?=some (.cells (avL f M) true)
  md:X[H.length+2]?=some (.cells (rwV (fun k=>if k<i then .slice (H.length+3+k) 0 M 1 true else .nilslice) N) true)
  row:∀ k,k<i→X[H.length+3+k]?=some (.cells (avB (g k) M) true)
theorem FR.cv {H:Heap} {bx:List AV} {N M i:Nat} {f:Nat→Int} {g:Nat→Nat→Bool} {X:Heap} (h:FR H bx N M i f g X):∃ G,X=H++G:=ext_of (by have:=h.len;omega) h.pre
theorem FR.add {H:Heap} {bx:List AV} {N M i:Nat} {f:Nat→Int} {g:Nat→Nat→Bool} {X:Heap} (h:FR H bx N M i f g X) (hi:i<N) (hg:∀ j,g i j=false) :
    FR H bx N M (i+1) f g ((X++[AObj.cells (avB (fun _=>false) M) true]).set (H.length+2) (.cells (splice (rwV (fun k=>if k<i then .slice (H.length+3+k) 0 M 1 true else .nilslice) N) i [.slice X.length 0 M 1 true]) true)):=by
  have hl:=h.len
  have old:∀ j,j≠H.length+2→j<X.length→((X++[AObj.cells (avB (fun _=>false) M) true]).set (H.length+2) (.cells (splice (rwV (fun k=>if k<i then .slice (H.length+3+k) 0 M 1 true else .nilslice) N) i [.slice X.length 0 M 1 true]) true))[j]?=X[j]?:=fun j h1 h2=>by
    rw [List.getElem?_set,if_neg (fun x=>h1 x.symm),List.getElem?_append_left h2]
  refine⟨by simp;omega,fun j hj=>by rw [old j (by omega) (by omega)];exact h.pre j hj,by rw [old _ (by omega) (by omega)];exact h.box,by rw [old _ (by omega) (by omega)];exact h.hd,?_,fun k hk=>?_⟩
  · rw [List.getElem?_set,if_pos rfl,if_pos (by simp;omega),rwV_put _ hi]
    congr 3
    funext k
    simp only [updV]
    by_cases e:k=i
    · subst e
      rw [if_pos rfl,if_pos (Nat.lt_succ_self k),hl]
    · have:(k<i+1)↔(k<i):=by omega
      simp only [if_neg e,this]
  · by_cases e:k=i
    · subst e
      rw [List.getElem?_set,if_neg (by omega),← hl,List.getElem?_append_right (Nat.le_refl _)]
      have:g k=fun _=>false:=funext hg
      simp [this]
    · rw [old _ (by omega) (by omega)];exact h.row k (by omega)
theorem FR.hands {H:Heap} {bx:List AV} {N M i:Nat} {f f':Nat→Int} {g:Nat→Nat→Bool} {X:Heap} (h:FR H bx N M i f g X):FR H bx N M i f' g (X.set (H.length+1) (.cells (avL f' M) true)):=by
  have hl:=h.len
  have old:∀ j,j≠H.length+1→(X.set (H.length+1) (.cells (avL f' M) true))[j]?=X[j]?:=fun j h1=>by rw [List.getElem?_set,if_neg (fun x=>h1 x.symm)]
  exact⟨by simp;omega,fun j hj=>by rw [old j (by omega)];exact h.pre j hj,by rw [old _ (by omega)];exact h.box,by rw [List.getElem?_set,if_pos rfl,if_pos (by omega)],by rw [old _ (by omega)];exact h.md,fun k hk=>by rw [old _ (by omega)];exact h.row k hk⟩
theorem FR.congr {H:Heap} {bx:List AV} {N M i:Nat} {f:Nat→Int} {g g':Nat→Nat→Bool} {X:Heap} (h:FR H bx N M i f g X) (hg:∀ s,s<i→∀ k,g' s k=g s k):FR H bx N M i f g' X :=
  ⟨h.len,h.pre,h.box,h.hd,h.md,fun k hk=>by rw [h.row k hk];have:g' k=g k:=funext (hg k hk);rw [this]⟩
theorem FR.put {H:Heap} {bx:List AV} {N M i k:Nat} {f:Nat→Int} {g g':Nat→Nat→Bool} {X:Heap} (h:FR H bx N M i f g X) (hk:k<i) (hg:∀ j,j≠k→g' j=g j):FR H bx N M i f g' (X.set (H.length+3+k) (.cells (avB (g' k) M) true)):=by
  have hl:=h.len
  have old:∀ j,j≠H.length+3+k→(X.set (H.length+3+k) (.cells (avB (g' k) M) true))[j]?=X[j]?:=fun j h1=>by rw [List.getElem?_set,if_neg (fun x=>h1 x.symm)]
  refine⟨by simp;omega,fun j hj=>by rw [old j (by omega)];exact h.pre j hj,by rw [old _ (by omega)];exact h.box,by rw [old _ (by omega)];exact h.hd,by rw [old _ (by omega)];exact h.md,fun j hj=>?_⟩
  by_cases e:j=k
  · subst e;rw [List.getElem?_set,if_pos rfl,if_pos (by omega)]
  · rw [old _ (by omega),hg j e];exact h.row j hj
open Go.Hall
set_option maxHeartbeats 4000000 in
theorem c_r2free (H:Heap) (c:Cv) (p:Plc) (n:Nat) (hp:CvAt H c p) (hc:c.ok n) (hn:n≤12) :
    ACalls Try.prog F.ref02_free [.agg (c.av p)] H (fun v h'=>v=.tuple [.slice (H.length+2) 0 c.bs.length 1 true,.slice (H.length+1) 0 c.hs.length 1 true]∧FR H (c.av p) c.bs.length c.hs.length c.bs.length (handsF c) (fun _ h=>decide (h<c.hs.length) && (c.h h).cold) h'):=by
  have hp1:=hp.t
  have hp2:=rd_lt hp.b
  have hp3:=rd_lt hp.h
  have hlen:=hc.len
  have h8:=hc.hours
  have hcv:=hp
  simp only [Cv.av] at *
  refine acalls_of ok_ref02_free rfl fun hcl=>?_
  unfold ac_ref02_free zo
  simp only [argsT,Nat.zero_add,Nat.reduceAdd]
  repeat (first|(with_reducible first|apply X1|apply X2|apply X6|apply X8)|((with_reducible apply e_end);(simp;exact Rz))|((with_reducible apply O1);rfl;(simp (disch:=omega);exact Rz);exact Rz;(focus (first|(simp;done)|omega|(simp;omega)))))
  rw [rwV_nil,avL_z0]
  generalize hbx:[AV.slice p.tid p.toff p.tn 9 p.tex,.slice p.bid p.boff c.bs.length 3 p.bex,.slice p.hid p.hoff c.hs.length 5 p.hex,.int .i64 c.w1,.int .i64 c.w2,.int .i64 c.y1,.int .i64 c.y2,.int .i64 c.rate,.int .i64 c.lim,.int .i64 c.base]=bx
  have hS0:FR H bx c.bs.length c.hs.length 0 (fun _=>0) (fun _ _=>false) (H++[.cells bx true,.cells (avL (fun _=>0) c.hs.length) true,.cells (rwV (fun _=>AV.nilslice) c.bs.length) true]):=by
    refine⟨by simp,fun j hj=>by rw [List.getElem?_append_left hj],by simp,by simp,?_,fun k hk=>by omega⟩
    simp
  have hbl:bx.length=10:=by rw [← hbx];rfl
  have h1:∀ {i f g X},FR H bx c.bs.length c.hs.length i f g X→rd X H.length 1 1=some [.slice p.bid p.boff c.bs.length 3 p.bex]:=fun h=>by rw [rd_cells h.box (by rw [hbl];omega),← hbx];rfl
  have h2:∀ {i f g X},FR H bx c.bs.length c.hs.length i f g X→rd X H.length 2 1=some [.slice p.hid p.hoff c.hs.length 5 p.hex]:=fun h=>by rw [rd_cells h.box (by rw [hbl];omega),← hbx];rfl
  refine e_loop (ι:={ x:Nat × Heap // x.1≤c.bs.length∧FR H bx c.bs.length c.hs.length x.1 (fun _=>0) (fun _ _=>false) x.2 })
    (fun x=>[(1,.ptr H.length 0),(4,.slice (H.length+1) 0 c.hs.length 1 true),(5,.slice (H.length+2) 0 c.bs.length 1 true),(6,.int .i64 x.1.1)])
    (fun x=>x.1.2) (fun x=>c.bs.length-x.1.1) ⟨(0,_),Nat.zero_le _,hS0⟩ ?_ ?_
  · exact .inl rfl
  · rintro⟨⟨i,X⟩,hi,hX⟩
    dsimp only at hi hX ⊢
    have hXl:=hX.len
    by_cases hil:i<c.bs.length
    · have hil2:(i:Int)<c.bs.length:=by omega
      have b1:=h1 hX
      have b2:=h2 hX
      have hwr:=wr_cells (v:=.slice X.length 0 c.hs.length 1 true) ((List.getElem?_append_left (l₂:=[AObj.cells (avB (fun _=>false) c.hs.length) true]) (by omega)).trans hX.md) (show i+1≤(rwV (fun k=>if k<i then AV.slice (H.length+3+k) 0 c.hs.length 1 true else .nilslice) c.bs.length).length by rw [rwV_length];omega)
      have hadd:=hX.add hil (fun _=>rfl)
      have hz:=avB_zero c.hs.length
      rw [set_old (by omega)] at hadd hwr
      repeat (first|(with_reducible first|apply X1|apply X2|apply X5|apply X6|apply X8|apply Y2)|((with_reducible apply e_end);(simp;exact Rz))|((first|((with_reducible apply O1);rfl)|((with_reducible apply O2);rfl));(simp (disch:=omega) [hil,hil2,b1,b2,hz,-splice,hwr];exact Rz);exact Rz;(focus (first|(simp;done)|omega|(simp;omega))))|((with_reducible apply Z9);(simp (disch:=omega) [hil,hil2,b1,b2,hz,-splice,hwr];exact Rz)))
      exact q_again ⟨(i+1,_),hil,hadd⟩ (by dsimp only;omega) (.inl (by simp))
    · have hil2:¬ (i:Int)<c.bs.length:=by omega
      obtain rfl:i=c.bs.length:=by omega
      have b1:=h1 hX
      repeat (first|(with_reducible first|apply X1|apply X2|apply X4|apply X6|apply X8|apply Y1|apply Y4|apply Y6)|((with_reducible apply e_end);(simp;exact Rz))|((with_reducible apply O1);rfl;(simp (disch:=omega) [hil,hil2,b1];exact Rz);exact Rz;(focus (first|(simp;done)|omega|(simp;omega))))|((with_reducible apply W3);(simp (disch:=omega) [hil,hil2,b1];exact Rz)))
      have hX0:FR H bx c.bs.length c.hs.length c.bs.length (fun k=>if k<0 then handsF c k else 0) (fun _ k=>decide (k<0) && (c.h k).cold) X:=by simpa using hX
      refine e_loop (ι:={ x:Nat × Heap // x.1≤c.hs.length∧FR H bx c.bs.length c.hs.length c.bs.length (fun k=>if k<x.1 then handsF c k else 0) (fun _ k=>decide (k<x.1) && (c.h k).cold) x.2 })
        (fun x=>[(1,.ptr H.length 0),(4,.slice (H.length+1) 0 c.hs.length 1 true),(5,.slice (H.length+2) 0 c.bs.length 1 true),(7,.int .i64 x.1.1)])
        (fun x=>x.1.2) (fun x=>c.hs.length-x.1.1) ⟨(0,X),Nat.zero_le _,hX0⟩ ?_ ?_
      · exact .inl rfl
      · clear hX hX0 hXl b1 X hil hil2 hi
        rintro⟨⟨h,X⟩,hh,hX⟩
        dsimp only at hh hX ⊢
        have b2:=h2 hX
        by_cases hlt:h<c.hs.length
        rotate_left
        · have hlt2:¬ (h:Int)<c.hs.length:=by omega
          obtain rfl:h=c.hs.length:=by omega
          repeat (first|(with_reducible first|apply X1|apply X2|apply X3|apply X4|apply X8|apply Y1|apply Y4|apply Y6)|((with_reducible apply e_end);(simp;exact Rz))|((with_reducible apply O1);rfl;(simp (disch:=omega) [hlt,hlt2,b2];exact Rz);exact Rz;(focus (first|(simp;done)|omega|(simp;omega))))|((with_reducible apply W3);(simp (disch:=omega) [hlt,hlt2,b2];exact Rz)))
          refine q_stay (.inr rfl) (by simp;exact Rz) ⟨rfl,?_⟩
          have e:(fun k=>if k<c.hs.length then handsF c k else 0)=handsF c:=by
            funext k
            by_cases hk:k<c.hs.length
            · simp [hk]
            · have:c.h k=⟨0,0,0,0,false⟩:=by simp [Cv.h,List.getD_eq_getElem?_getD,List.getElem?_eq_none (Nat.not_lt.1 hk)]
              simp [hk,handsF,this]
          rw [e] at hX;exact hX
        have hlt2:(h:Int)<c.hs.length:=by omega
        obtain⟨G,hG⟩:=hX.cv
        have hcX:CvAt X c p:=by rw [hG];exact hcv.app G
        have r4:=rd_sub' (hcX.hour hlt) 4 1 (by omega)
        have r3:=rd_sub' (hcX.hour hlt) 3 1 (by omega)
        simp only [Hr.av,List.drop_succ_cons,List.drop_zero,List.take_succ_cons,List.take_zero] at r4 r3
        cases hcold:(c.h h).cold with
        | false =>
          rw [hcold] at r4
          repeat (first|(with_reducible first|apply X1|apply X2|apply X4|apply X5|apply X6|apply X8|apply Y1|apply Y4)|((with_reducible apply e_end);(simp;exact Rz))|((with_reducible apply O1);rfl;(simp (disch:=omega) [hlt,hlt2,b2,r4];exact Rz);exact Rz;(focus (first|(simp;done)|omega|(simp;omega))))|((with_reducible apply Z9);(simp (disch:=omega) [hlt,hlt2,b2,r4];exact Rz)))
          refine q_again ⟨(h+1,X),hlt,?_⟩ (by dsimp only;omega) (.inl (by simp))
          have e1:(fun k=>if k<h+1 then handsF c k else 0)=fun k=>if k<h then handsF c k else 0:=by
            funext k
            by_cases hk:k=h
            · subst hk;simp [handsF,hcold]
            · have:(k<h+1)↔(k<h):=by omega
              simp only [this]
          have e2:(fun (_:Nat) k=>decide (k<h+1) && (c.h k).cold)=fun _ k=>decide (k<h) && (c.h k).cold:=by
            funext _ k
            by_cases hk:k=h
            · subst hk;simp [hcold]
            · have:(k<h+1)↔(k<h):=by omega
              simp only [this]
          dsimp only
          rw [e1,e2];exact hX
        | true =>
          rw [hcold] at r4
          have hput:=avL_put (f:=fun k=>if k<h then handsF c k else 0) (g:=fun k=>if k<h+1 then handsF c k else 0) (n:=c.hs.length) (i:=h) (x:=(c.h h).crew) hlt (fun j=>by
            by_cases hj:j=h
            · subst hj;simp [handsF,hcold]
            · have:(j<h+1)↔(j<h):=by omega
              simp only [if_neg hj,this])
          have hwr:=wr_cells (v:=.int .i64 (c.h h).crew) hX.hd (show h+1≤(avL (fun k=>if k<h then handsF c k else 0) c.hs.length).length by rw [avL_length];omega)
          rw [hput] at hwr
          have hXh:=hX.hands (f':=fun k=>if k<h+1 then handsF c k else 0)
          repeat (first|(with_reducible first|apply X1|apply X2|apply X5|apply X6|apply X8)|((with_reducible apply e_end);(simp;exact Rz))|((first|((with_reducible apply O1);rfl)|((with_reducible apply O2);rfl));(simp (disch:=omega) [hlt,hlt2,b2,r4,r3,-splice,hwr];exact Rz);exact Rz;(focus (first|(simp;done)|omega|(simp;omega))))|((with_reducible apply Z9);(simp (disch:=omega) [hlt,hlt2,b2,r4,r3,-splice,hwr];exact Rz))|((with_reducible apply W3);(simp (disch:=omega) [hlt,hlt2,b2,r4,r3,-splice,hwr];exact Rz)))
          clear hwr hput r4 r3 hcX hG G b2 hX
          generalize X.set (H.length+1) (AObj.cells (avL (fun k=>if k<h+1 then handsF c k else 0) c.hs.length) true)=X at hXh ⊢
          refine e_loop (ι:={ x:Nat × Heap // x.1≤c.bs.length∧FR H bx c.bs.length c.hs.length c.bs.length (fun k=>if k<h+1 then handsF c k else 0) (fun s k=>(decide (k<h) || (decide (k=h) && decide (s<x.1))) && (c.h k).cold) x.2 })
            (fun x=>[(1,.ptr H.length 0),(4,.slice (H.length+1) 0 c.hs.length 1 true),(5,.slice (H.length+2) 0 c.bs.length 1 true),(7,.int .i64 h),(8,.int .i64 x.1.1)])
            (fun x=>x.1.2) (fun x=>c.bs.length-x.1.1) ⟨(0,X),Nat.zero_le _,by simpa using hXh⟩ ?_ ?_
          · exact .inl rfl
          · clear hXh X
            rintro⟨⟨i,X⟩,hi,hX⟩
            dsimp only at hi hX ⊢
            have b1:=h1 hX
            by_cases hil:i<c.bs.length
            rotate_left
            · have hil2:¬ (i:Int)<c.bs.length:=by omega
              obtain rfl:i=c.bs.length:=by omega
              repeat (first|(with_reducible first|apply X1|apply X2|apply X4|apply X8|apply Y1|apply Y2|apply Y4|apply Y6)|((with_reducible apply e_end);(simp;exact Rz))|((with_reducible apply O1);rfl;(simp (disch:=omega) [hil,hil2,b1];exact Rz);exact Rz;(focus (first|(simp;done)|omega|(simp;omega))))|((with_reducible apply W3);(simp (disch:=omega) [hil,hil2,b1];exact Rz)))
              refine q_again ⟨(h+1,X),hlt,?_⟩ (by dsimp only;omega) (.inl (by simp))
              dsimp only
              refine hX.congr fun s hs k=>?_
              have:(k<h+1)↔(k<h∨k=h):=by omega
              simp [hs,this]
            have hil2:(i:Int)<c.bs.length:=by omega
            have b3:rd X (H.length+2) i 1=some [.slice (H.length+3+i) 0 c.hs.length 1 true]:=by
              rw [rd_cells hX.md (by rw [rwV_length];omega),rwV_at _ hil,if_pos hil]
            have hput:=avB_put (f:=fun k=>(decide (k<h) || (decide (k=h) && decide (i<i))) && (c.h k).cold) (g:=fun k=>(decide (k<h) || (decide (k=h) && decide (i<i+1))) && (c.h k).cold) (n:=c.hs.length) (i:=h) (x:=true) hlt (fun j=>by
              by_cases hj:j=h
              · subst hj;simp [hcold]
              · simp [hj])
            have hwr:=wr_cells (v:=.bool true) (hX.row i hil) (show h+1≤(avB (fun k=>(decide (k<h) || (decide (k=h) && decide (i<i))) && (c.h k).cold) c.hs.length).length by rw [avB_len];omega)
            rw [hput] at hwr
            have hXp:=hX.put (k:=i) (g':=fun s k=>(decide (k<h) || (decide (k=h) && decide (s<i+1))) && (c.h k).cold) hil (fun j hj=>by
              funext k
              have:(j<i+1)↔(j<i):=by omega
              simp only [this])
            repeat (first|(with_reducible first|apply X1|apply X2|apply X5|apply X6|apply X8|apply Y2)|((with_reducible apply e_end);(simp;exact Rz))|((first|((with_reducible apply O1);rfl)|((with_reducible apply O2);rfl));(simp (disch:=omega) [hil,hil2,hlt,hlt2,b1,b3,-splice,hwr];exact Rz);exact Rz;(focus (first|(simp;done)|omega|(simp;omega))))|((with_reducible apply Z9);(simp (disch:=omega) [hil,hil2,hlt,hlt2,b1,b3,-splice,hwr];exact Rz)))
            exact q_again ⟨(i+1,_),hil,hXp⟩ (by dsimp only;omega) (.inl (by simp))
open Go.Hall
def rNd (c:Cv) (S:Nat→Nat→Option Bool) (s d:Nat):Int:=max 0 (ndR c s d-ct (fun a=>stT S a s) c.hs.length)
def rMy (c:Cv) (S:Nat→Nat→Option Bool) (h s:Nat):Bool:=(S h s).isNone && (c.h h).cold
theorem canF_iff {N M:Nat} {need:Nat→Nat→Int} {may:Nat→Nat→Bool} {hands:Nat→Int} (hN:N≤12) (hM:M≤8) (hh:∀ h,h<M→0≤hands h) :
    canF N M M need may hands↔Feas 12 8 (fun h=>if h<M then hands h else 0) may (fun s d=>if s<N∧d<M then need s d else 0):=by
  rw [hall_iff (fun h _=>by
    split
    · exact hh h ‹_›
    · omega)]
  have key:∀ (sm':Nat→Bool) (set:Nat),(∀ h,h<M→set.testBit h=sm' h)→(Short 12 8 (fun h=>if h<M then hands h else 0) may (fun s d=>if s<N∧d<M then need s d else 0) sm'↔shortF N M M need may hands set=true):=fun sm' set hb=>by
    simp only [Short,shortF,decide_eq_true_eq]
    have e1:sm (fun h=>if sm' h=true then if h<M then hands h else 0 else 0) 8=sm (fun h=>if set.testBit h=true then hands h else 0) M:=by
      rw [sm_same (a:=M) hM fun i h1 _=>by simp [show ¬ i<M by omega]]
      exact sm_congr fun i hi=>by rw [hb i hi];simp [hi]
    have e2:sm (fun s=>lackT (fun d=>if s<N∧d<M then need s d else 0) (fun h=>may h s && !sm' h) 8) 12=sm (fun s=>lackT (need s) (fun h=>may h s && !set.testBit h) M) N:=by
      have zero:∀ (can:Nat→Bool) m,lackT (fun _=>0) can m=0:=fun can m=>Int.le_antisymm (lackT_le (Int.le_refl _) fun d _=>Int.sub_nonpos_of_le (ct_nonneg _ _)) (lackT_nonneg _ _ _)
      have tail:∀ (f:Nat→Int) (can:Nat→Bool) b,M≤b→(∀ i,M≤i→f i≤0)→lackT f can b=lackT f can M:=fun f can b=>by
        induction b with
        | zero => intro h1 _; obtain rfl : M = 0 := by omega
                  rfl
        | succ b ih =>
          intro h1 h2
          by_cases e:M=b+1
          · rw [e]
          · have a1:=ih (by omega) h2
            have a2:=h2 b (by omega)
            have a3:=ct_nonneg can b
            have a4:=lackT_nonneg f can M
            simp only [lackT];omega
      rw [sm_same (a:=N) hN fun i h1 _=>by
        have:(fun d=>if i<N∧d<M then need i d else 0)=fun _=>(0:Int):=by funext d;simp [show ¬ i<N by omega]
        rw [this,zero]]
      refine sm_congr fun s hs=>?_
      rw [tail _ _ 8 hM fun i hi=>by simp [show ¬ i<M by omega]]
      exact lackT_congr (fun i hi=>by simp [hs,hi]) fun i hi=>by rw [hb i (by omega)]
    rw [e1,e2]
  constructor
  · intro hc sm' _ hs
    obtain⟨set,h1,h2⟩:=ex_bits sm' M
    have:=(key sm' set fun h hh=>by rw [h2];simp [hh]).1 hs
    rw [hc set h1] at this;cases this
  · intro hno set hset
    cases hsh:shortF N M M need may hands set with
    | false=>rfl
    | true=>exact absurd ((key (fun h=>set.testBit h) set fun _ _=>rfl).2 hsh) (hno _ fun h hb=>by have:=bit_lt hset hb;omega)
theorem can_feas {c:Cv} {n:Nat} (hc:c.ok n) (hb:c.bs.length≤12) {S:Nat→Nat→Option Bool} {B:Nat} (hset:∀ a e,(S a e).isSome=true→a<B)
    (hmet:∀ s,s<c.bs.length→∀ d,d<B→d<c.hs.length→ndR c s d≤ct (fun a=>stT S a s) d) (hid:∀ a,a<8→0≤idF c S a) :
    canF c.bs.length c.hs.length c.hs.length (rNd c S) (rMy c S) (idF c S)↔feasR c S:=by
  have h8:=hc.hours
  rw [canF_iff hb h8.2 fun a ha=>hid a (by omega)]
  have tot:∀ s d,B≤d→d≤c.hs.length→ct (fun a=>stT S a s) d=ct (fun a=>stT S a s) c.hs.length:=fun s d h1 h2=>by
    rw [← ct_below (fun a=>stT S a s) h2]
    refine ct_congr fun i _=>?_
    cases hst:stT S i s with
    | false=>simp
    | true=>have:=hset i s (stT_some hst);simp;omega
  constructor
  · rintro⟨P,h1,h2,h3⟩
    refine⟨P,fun a e ha=>?_,fun a ha=>?_,fun s hs d hd=>?_⟩
    · have:=h1 a e ha
      simp only [rMy,Bool.and_eq_true] at this
      exact this.1
    · have:=h2 a ha
      dsimp only at this
      split at this
      · exact this
      · rename_i x
        simp only [idF,if_neg x];exact this
    · have b:=h3 s hs d hd
      simp only [ndX]
      split
      · rename_i x
        simp only [if_pos x] at b
        have cn:=ct_nonneg (fun h=>P h s) d
        by_cases hdh:B≤d
        · have:=tot s d hdh (by omega)
          simp only [rNd] at b
          omega
        · have:=hmet s x.1 d (by omega) x.2
          omega
      · exact ct_nonneg _ _
  · rintro⟨P,h1,h2,h3⟩
    refine⟨fun a e=>P a e && ((c.h a).cold && decide (e<12)),fun a e ha=>?_,fun a ha=>?_,fun s hs d hd=>?_⟩
    · simp only [Bool.and_eq_true] at ha
      have:=h1 a e ha.1
      simp only [rMy,Bool.and_eq_true]
      exact⟨this,ha.2.1⟩
    · dsimp only
      have b:=h2 a ha
      have b2:ct (fun e=>P a e && ((c.h a).cold && decide (e<12))) 12≤ct (P a) 12:=ct_le fun i _ hi=>by simp only [Bool.and_eq_true] at hi;exact hi.1
      have hz:=hid a ha
      split
      · omega
      · rename_i x
        simp only [idF,if_neg x] at b
        omega
    · dsimp only
      split
      · rename_i x
        have b:=h3 s hs d hd
        simp only [ndX,if_pos x] at b
        have e:ct (fun a=>P a s && ((c.h a).cold && decide (s<12))) d=ct (fun a=>P a s) d:=ct_congr fun a had=>by
          cases hp:P a s with
          | false=>simp
          | true =>
            have r:=h2 a (by omega)
            have r2:1≤ct (P a) 12:=by
              have:=ct_less (p:=P a) hs hp
              have:=ct_nonneg (fun i=>P a i && !decide (i=s)) 12
              omega
            have r3:idF c S a≤handsF c a:=by
              simp only [idF,if_pos (show a<c.hs.length by omega)]
              have:=ct_nonneg (stT S a) c.bs.length
              omega
            have r4:(c.h a).cold=true:=by
              cases hcold:(c.h a).cold with
              | true=>rfl
              | false=>simp only [handsF,hcold,Bool.false_eq_true,if_false] at r3;omega
            simp [r4,hs]
        rw [e]
        have cn:=ct_nonneg (fun a=>P a s) d
        simp only [rNd]
        by_cases hdh:B≤d
        · have:=tot s d hdh (by omega)
          omega
        · have m1:=hmet s x.1 d (by omega) x.2
          have m2:=ct_mono (p:=fun a=>stT S a s) (show d≤c.hs.length by omega)
          omega
      · exact ct_nonneg _ _
theorem okL_ext {n:Nat}:∀ {l m:List Int},okL n l→okL n m→(∀ x,x∈l↔x∈m)→l=m:=fun {l m} hl hm he=>by
  have srt:∀ {k:List Int},okL n k→k.Pairwise (·<·):=fun {k} hk=>by
    rw [List.pairwise_iff_getElem]
    intro i j hi hj hij
    have go:∀ d,∀ (hj:i+d+1<k.length),k[i]<k[i+d+1]:=fun d=>by
      induction d with
      | zero=>intro hj;have:=(hk (i+1) hj).2 (by omega);simpa using this
      | succ d ih =>
        intro hj
        have a:=ih (by omega)
        have b:=(hk (i+(d+1)+1) hj).2 (by omega)
        have e:i+(d+1)+1-1=i+d+1:=by omega
        simp only [e] at b
        exact Int.lt_trans a b
    have:=go (j-i-1) (by omega)
    have e:i+(j-i-1)+1=j:=by omega
    simpa only [e] using this
  have nd:∀ {k:List Int},okL n k→k.Nodup:=fun {k} hk=>(srt hk).imp fun h=>by omega
  have hp:l.Perm m:=(List.perm_ext_iff_of_nodup (nd hl) (nd hm)).2 he
  exact hp.eq_of_pairwise (fun a b _ _ h1 h2=>by omega) (srt hl) (srt hm)
theorem BestP.uniq {c:Cv} {L O:Nat→List Int} (hL:BestP c L) (hO:BestP c O) {h:Nat} (hh:h<c.hs.length):L h=O h:=by
  have all:∀ k a e,a<c.hs.length→e<c.bs.length→a * c.bs.length+e<k→inP L a e=inP O a e:=fun k=>by
    induction k with
    | zero=>intro a e _ _ h;omega
    | succ k ih =>
      intro a e ha he hk
      have before:∀ a' e',e'<c.bs.length→(a'<a∨(a'=a∧e'<e))→inP L a' e'=inP O a' e':=fun a' e' h1 h2=>by
        refine ih a' e' (by omega) h1 ?_
        rcases h2 with h2|⟨rfl,h2⟩
        · have:(a'+1) * c.bs.length≤a * c.bs.length:=Nat.mul_le_mul_right _ h2
          rw [Nat.add_mul,Nat.one_mul] at this
          omega
        · omega
      have f1:=hO.fst (inP L) hL.good a e ha he before
      have f2:=hL.fst (inP O) hO.good a e ha he fun a' e' h1 h2=>(before a' e' h1 h2).symm
      cases h1:inP L a e with
      | true=>rw [f1 h1]
      | false =>
        cases h2:inP O a e with
        | false=>rfl
        | true=>rw [f2 h2] at h1;cases h1
  refine okL_ext (hL.ok h hh).2 (hO.ok h hh).2 fun x=>?_
  have mem:∀ {L:Nat→List Int},BestP c L→(x∈L h→∃ s:Nat,s<c.bs.length∧x=s):=fun {L} hL hx=>by
    obtain⟨i,hi,rfl⟩:=List.getElem_of_mem hx
    have:=((hL.ok h hh).2 i hi).1
    exact⟨((L h)[i]).toNat,by omega,by omega⟩
  constructor
  · intro hx
    obtain⟨s,hs,rfl⟩:=mem hL hx
    have:=all (h * c.bs.length+s+1) h s hh hs (by omega)
    simp only [inP,decide_eq_decide] at this
    exact this.1 hx
  · intro hx
    obtain⟨s,hs,rfl⟩:=mem hO hx
    have:=all (h * c.bs.length+s+1) h s hh hs (by omega)
    simp only [inP,decide_eq_decide] at this
    exact this.2 hx
theorem PS.met {c:Cv} {S:Nat→Nat→Option Bool} {h s0:Nat} (hp:PS c S h s0) (hb:c.bs.length≤12) (h8:c.hs.length≤8) {s d:Nat} (hs:s<c.bs.length) (hd:d≤h) (hd2:d<c.hs.length):ndR c s d≤ct (fun a=>stT S a s) d:=by
  obtain⟨P,h1,_,h3⟩:=hp.feas
  have a:=h3 s (by omega) d (by omega)
  simp only [ndX,if_pos (And.intro hs hd2)] at a
  have e:ct (fun h=>P h s) d=0:=(sm_congr fun i hi=>by
    refine if_neg fun hP=>?_
    have t:(S i s).isNone=true:=h1 i s hP
    have k:=(hp.some i s).2 ⟨by omega,hs⟩
    cases hsi:S i s with
    | none=>rw [hsi] at k;cases k
    | some b=>rw [hsi] at t;cases t).trans (sm_zero d)
  omega
theorem can_settle {c:Cv} {n:Nat} (hc:c.ok n) (hb:c.bs.length≤12) {S:Nat→Nat→Option Bool} {h s:Nat} (hp:PS c S h s) (hh:h<c.hs.length) (hs:s<c.bs.length) (h0:0<idF c S h) :
    canF c.bs.length c.hs.length c.hs.length (rNd c (setS S h s true)) (rMy c (setS S h s true)) (idF c (setS S h s true))↔feasR c (setS S h s true):=by
  have h8:=hc.hours
  have hn:S h s=none:=hp.none (by omega)
  refine can_feas hc hb (B:=h+1) (fun a e ha=>?_) (fun e he d hd hd2=>?_) (fun a ha=>?_)
  · simp only [setS] at ha
    split at ha
    · omega
    · have:=(hp.some a e).1 ha;omega
  · have m:=hp.met hb h8.2 he (show d≤h by omega) hd2
    have e2:ct (fun a=>stT (setS S h s true) a e) d=ct (fun a=>stT S a e) d:=ct_congr fun i hi=>by
      rw [stT_put];dsimp only;rw [if_neg (by omega)]
    rw [e2];exact m
  · rw [idF_put hh hs hn]
    have:=hp.hnd a ha
    split
    · rename_i x;rw [x.1];omega
    · omega
theorem rNd_put {c:Cv} {S:Nat→Nat→Option Bool} {h s:Nat} (hh:h<c.hs.length) (hn:S h s=none) (e d:Nat):rNd c (setS S h s true) e d=if e=s then max 0 (rNd c S s d-1) else rNd c S e d:=by
  simp only [rNd]
  by_cases he:e=s
  · subst he
    rw [if_pos rfl,stT_col hn,if_pos hh];omega
  · rw [if_neg he,stT_else true he]
theorem rNd_off {c:Cv} {S:Nat→Nat→Option Bool} {h s:Nat} (hn:S h s=none):rNd c (setS S h s false)=rNd c S:=by
  funext e d
  simp only [rNd,stT_off hn]
theorem rMy_put {c:Cv} {S:Nat→Nat→Option Bool} {h s:Nat} (b:Bool) (a e:Nat):rMy c (setS S h s b) a e=if a=h∧e=s then false else rMy c S a e:=by
  simp only [rMy,setS]
  split <;> simp
end Go.Proofs
