/- The abstract machine, run for the kernel: the same operations. -/
import Derived.Test.YtdocpfbfchaekaaGreatA31
namespace Go.Abs
open Go.RowKit
section
theorem mOne_eq (o:Option AV) (k:AV→Option RT):mOne o k=match o with|some v=>wV v k|none=>none:=by
  cases o with
  | none=>rfl
  | some v=>show wQ v k=wV v k;rw [wQ_eq,wV_eq]
theorem qInts_eq {op:BinOp} (h:op≠.quo∧op≠.rem) (x y:AOpd) (f:IntKind→Int→Int→(AV→Option RT)→Option RT) (t:Tm) (tr:Tr) (s:Nat) (K:Kt)
    (hf:∀ q a b k,f q a b k=opt (binA op (.int q a) (.int q b)) k):qInts (.bin op x y) x y f t tr s K=fxT (.bin op x y) t tr s K:=by
  have e1:fxT (.bin op x y) t tr s K=opt (binA op (evR t x) (evR t y)) fun v=>K v tr s:=by
    cases op <;> first
      | exact (h.1 rfl).elim
      | exact (h.2 rfl).elim
      | (simp only [fxT,binR_eq];cases binA _ (evR t x) (evR t y) <;> rfl)
  have e2:slowT (.bin op x y) t tr s K=opt (binA op (evR t x) (evR t y)) fun v=>K v tr s:=by
    rw [evR_eq]
    cases op <;> first
      | exact (h.1 rfl).elim
      | exact (h.2 rfl).elim
      | (show (match AOp.fx (.bin _ x y) (AOpd.ev t) [] with | some (v, _) => fV v fun v => K v tr s | none => none) = _
         simp only [AOp.fx,fV_eq]
         cases binA _ (x.ev t) (y.ev t) <;> rfl)
  rw [e1]
  unfold qInts
  rw [e2,evQ_eq]
  generalize evR t x=v
  generalize evR t y=w
  cases v <;> try rfl
  rename_i q a
  cases w <;> try rfl
  rename_i q' b
  show yes (keq q q') (f q a b fun v=>K v tr s) none=_
  rw [yes_eq,keq_eq]
  by_cases hq:q=q'
  · subst hq;simp only [decide_true,if_true,hf]
  · simp [hq,binA,opt]
theorem fxQ_eq (o:AOp) (t:Tm) (tr:Tr) (s:Nat) (K:Kt):fxQ o t tr s K=fxT o t tr s K:=by
  cases o
  case mov x =>
    show qMov x t tr s K=_
    simp only [qMov,fxT,wQ_eq,wV_eq,evQ_eq]
  case pick c a b =>
    show mBool (evQ t c) (fun x=>wQ (evQ t (Bool.rec (motive:=fun _=>AOpd) b a x)) fun v=>K v tr s) none=_
    simp only [fxT,wQ_eq,wV_eq,evQ_eq]
    cases evR t c with
    | bool x=>cases x <;> rfl
    | _=>rfl
  case alloc zs=>rfl
  case box x=>show cellsQ (evQ t x) _=cellsR (evR t x) _;rw [cellsQ_eq,evQ_eq]
  case build zs ps=>exact fillQ_eq t ps zs _
  case buildSlice zs ps ln sz=>exact fillQ_eq t ps zs _
  case load1 a =>
    show mPtr (evQ t a) _ none=_
    simp only [fxT,evQ_eq,rd1Q_eq]
    cases evR t a <;> rfl
  case loadN a n =>
    show mPtr (evQ t a) _ none=_
    simp only [fxT,evQ_eq,rdQ_eq]
    cases evR t a <;> rfl
  case store a n x =>
    show mPtr (evQ t a) (fun id off=>cellsQ (evQ t x) fun vs=>yes (Nat.beq (lenR vs) n) (yes (allR scal vs) (wrtQ tr s id off vs fun tr'=>K (.tuple []) tr' s) none) none) none=_
    simp only [fxT,evQ_eq,wrtQ_eq,cellsQ_eq]
    cases evR t a <;> rfl
  case nilCheck x=>rfl
  case bin op x y =>
    have e1:∀ a b:Int,(!decide (b≤a))=decide (a<b):=fun a b=>by rw [Bool.eq_iff_iff];simp
    cases op
    case add =>
      show qInts (.bin .add x y) x y (fun q a b k=>wrQ q (Int.add a b) fun n=>k (.int q n)) t tr s K=_
      exact qInts_eq ⟨by decide,by decide⟩ x y _ t tr s K fun q a b k=>by simp only [wrQ_eq,fB_eq,ieq_eq,ile_eq,binA,if_true,opt,e1] <;> rfl
    case sub =>
      show qInts (.bin .sub x y) x y (fun q a b k=>wrQ q (Int.sub a b) fun n=>k (.int q n)) t tr s K=_
      exact qInts_eq ⟨by decide,by decide⟩ x y _ t tr s K fun q a b k=>by simp only [wrQ_eq,fB_eq,ieq_eq,ile_eq,binA,if_true,opt,e1] <;> rfl
    case mul =>
      show qInts (.bin .mul x y) x y (fun q a b k=>wrQ q (Int.mul a b) fun n=>k (.int q n)) t tr s K=_
      exact qInts_eq ⟨by decide,by decide⟩ x y _ t tr s K fun q a b k=>by simp only [wrQ_eq,fB_eq,ieq_eq,ile_eq,binA,if_true,opt,e1] <;> rfl
    case eql =>
      show qInts (.bin .eql x y) x y (fun _ a b k=>fB (ieq a b) fun r=>k (.bool r)) t tr s K=_
      exact qInts_eq ⟨by decide,by decide⟩ x y _ t tr s K fun q a b k=>by simp only [wrQ_eq,fB_eq,ieq_eq,ile_eq,binA,if_true,opt,e1] <;> rfl
    case neq =>
      show qInts (.bin .neq x y) x y (fun _ a b k=>fB (ieq a b) fun r=>k (.bool (Bool.not r))) t tr s K=_
      exact qInts_eq ⟨by decide,by decide⟩ x y _ t tr s K fun q a b k=>by simp only [wrQ_eq,fB_eq,ieq_eq,ile_eq,binA,if_true,opt,e1] <;> rfl
    case lss =>
      show qInts (.bin .lss x y) x y (fun _ a b k=>fB (ile b a) fun r=>k (.bool (Bool.not r))) t tr s K=_
      exact qInts_eq ⟨by decide,by decide⟩ x y _ t tr s K fun q a b k=>by simp only [wrQ_eq,fB_eq,ieq_eq,ile_eq,binA,if_true,opt,e1] <;> rfl
    case leq =>
      show qInts (.bin .leq x y) x y (fun _ a b k=>fB (ile a b) fun r=>k (.bool r)) t tr s K=_
      exact qInts_eq ⟨by decide,by decide⟩ x y _ t tr s K fun q a b k=>by simp only [wrQ_eq,fB_eq,ieq_eq,ile_eq,binA,if_true,opt,e1] <;> rfl
    case gtr =>
      show qInts (.bin .gtr x y) x y (fun _ a b k=>fB (ile a b) fun r=>k (.bool (Bool.not r))) t tr s K=_
      exact qInts_eq ⟨by decide,by decide⟩ x y _ t tr s K fun q a b k=>by simp only [wrQ_eq,fB_eq,ieq_eq,ile_eq,binA,if_true,opt,e1] <;> rfl
    case geq =>
      show qInts (.bin .geq x y) x y (fun _ a b k=>fB (ile b a) fun r=>k (.bool r)) t tr s K=_
      exact qInts_eq ⟨by decide,by decide⟩ x y _ t tr s K fun q a b k=>by simp only [wrQ_eq,fB_eq,ieq_eq,ile_eq,binA,if_true,opt,e1] <;> rfl
    all_goals rfl
  case eqCells=>rfl
  case neg=>rfl
  case not x =>
    show mBool (evQ t x) _ none=_
    simp only [fxT,evQ_eq]
    cases evR t x <;> rfl
  case conv=>rfl
  case mkfn f a b =>
    show evsQ t a (fun a=>evsQ t b fun b=>K (.fn f a b) tr s)=_
    simp only [fxT,evsQ_eq]
  case fieldAddr x off =>
    show mPtr (evQ t x) _ none=_
    simp only [fxT,evQ_eq]
    cases evR t x <;> rfl
  case field1 x off =>
    show mAgg (evQ t x) (fun cs=>mOne (getR cs off) fun v=>K v tr s) none=_
    simp only [fxT,evQ_eq,mOne_eq]
    cases evR t x <;> rfl
  case fieldN x off n =>
    show mAgg (evQ t x) _ none=_
    simp only [fxT,evQ_eq]
    cases evR t x <;> rfl
  case idxSl x i sz =>
    show mSlice (evQ t x) (fun id off ln sz' _=>mInt (evQ t i) (fun _ n=>yes (Nat.beq sz' sz) (yes (ile 0 n) (yes (Bool.not (ile (.ofNat ln) n)) (fN (Nat.add off (Nat.mul n.toNat sz)) fun o=>K (.ptr id o) tr s) none) none) none) none) none=_
    simp only [fxT,evQ_eq]
    cases evR t x <;> try rfl
    cases evR t i <;> rfl
  case idxArr x i ln sz =>
    show mPtr (evQ t x) (fun id off=>mInt (evQ t i) (fun _ n=>yes (ile 0 n) (yes (Bool.not (ile (.ofNat ln) n)) (fN (Nat.add off (Nat.mul n.toNat sz)) fun o=>K (.ptr id o) tr s) none) none) none) none=_
    simp only [fxT,evQ_eq]
    cases evR t x <;> try rfl
    cases evR t i <;> rfl
  case index1=>rfl
  case indexN x i ln sz =>
    show mAgg (evQ t x) (fun cs=>mInt (evQ t i) (fun _ n=>yes (ile 0 n) (yes (Bool.not (ile (.ofNat ln) n)) (takeR (dropR cs (Nat.mul n.toNat sz)) sz fun cs=>K (.agg cs) tr s) none) none) none) none=_
    simp only [fxT,evQ_eq,slowT,AOp.fx,takeR_eq,dropR_eq,yes_eq,ile_eq]
    have hb:Nat.beq (AOp.indexN x i ln sz).cls 0=true:=rfl
    rw [evR_eq]
    simp only [hb,if_true]
    cases x.ev t <;> try rfl
    cases i.ev t <;> try rfl
    rename_i cs k n
    show (if decide (0≤n)=true then if (!decide ((ln:Int)≤n))=true then K (.agg ((cs.drop (n.toNat * sz)).take sz)) tr s else none else none)=_
    by_cases h1:0≤n
    · by_cases h2:n<(ln:Int)
      · have h3:¬ (ln:Int)≤n:=by omega
        simp [h1,h2,h3,fV_eq]
      · have h3:(ln:Int)≤n:=by omega
        simp [h1,h2,h3]
    · simp [h1]
  case slice=>rfl
  case slice3=>rfl
  case extract x i =>
    show mTuple (evQ t x) (fun vs=>mOne (getR vs i) fun v=>K v tr s) none=_
    simp only [fxT,evQ_eq,mOne_eq]
    cases evR t x <;> rfl
  case len x =>
    show mSlice (evQ t x) _ (mNilS (evQ t x) _ none)=_
    simp only [fxT,evQ_eq]
    cases evR t x <;> rfl
  case lenS=>rfl
  case append x y sz bytes =>
    show slQ tr s sz (evQ t x) (fun n old=>slQ tr s sz (evQ t y) fun m new=>yes (allR scal new) (yes (Nat.ble (Nat.mul (Nat.add n m) bytes) 140737488355328)
      (mSlice (evQ t x) (fun id off _ _ _=>yes (Nat.ble (Nat.succ id) s) (mCells (getT tr id) fun _ own=>yes own (yes (Nat.beq off 0) (fN (Nat.add n m) fun l=>appR old new fun cs=>setT tr id .dead fun tr=>newT cs tr s fun tr' s'=>K (.slice s 0 l sz false) tr' s') none) none) none)
        (mNilS (evQ t x) (fN m fun m=>newT new tr s fun tr' s'=>K (.slice s 0 m sz false) tr' s') none)) none) none)=_
    simp only [fxT,evQ_eq,slQ_eq]
    congr 1;funext n old
    congr 1;funext m new
    congr 1
    show yes _ _ none=yes _ _ none
    congr 1
    cases evR t x <;> try rfl
    rename_i id off ln sz' ex
    dsimp only
    show yes (Nat.ble (Nat.succ id) s) (mCells (getT tr id) fun _ own=>yes own (yes (Nat.beq off 0) (fN (Nat.add n m) fun l=>appR old new fun cs=>setT tr id .dead fun tr=>newT cs tr s fun tr' s'=>K (.slice s 0 l sz false) tr' s') none) none) none=_
    unfold obT
    generalize Nat.ble id.succ s=bb
    cases bb with
    | false=>rfl
    | true =>
      generalize getT tr id=ob
      cases ob with
      | cells vs own=>cases own <;> rfl
      | _=>rfl
  case min2=>rfl
  case max2=>rfl
  case eqv=>rfl
  case shift=>rfl
  case capS=>rfl
  case sIdx=>rfl
  case sSlice=>rfl
  case makeSl=>rfl
  case appZ=>rfl
  case makeMap=>rfl
  case mapGet=>rfl
  case mapPut=>rfl
  case mapDel=>rfl
  case mapClear=>rfl
  case lenM=>rfl
  case rangeM=>rfl
  case nextM=>rfl
  case entryM=>rfl
  case bad =>
    show none=slowT .bad t tr s K
    simp [slowT,AOp.fx,yes_eq]
  case callF f a =>
    show none=slowT (.callF f a) t tr s K
    simp [slowT,AOp.fx,yes_eq]
  case callV f a =>
    show none=slowT (.callV f a) t tr s K
    simp [slowT,AOp.fx,yes_eq]
end
end Go.Abs
