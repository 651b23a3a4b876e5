/- The abstract machine, run for the kernel: memory as a tree, operations. -/
import Derived.Test.YtdocpfbfchaekaaGreatA26
noncomputable section
namespace Go.Abs
open Go.RowKit
universe u
def getT (t:Tr):Nat→AObj :=
  Tr.rec (motive:=fun _=>Nat→AObj) (fun _=>.dead)
    (fun _ o _ il ir n=>Nat.casesOn (motive:=fun _=>AObj) n o fun m=>Bool.casesOn (motive:=fun _=>AObj) (Nat.beq (Nat.mod m 2) 0) (ir (Nat.div m 2)) (il (Nat.div m 2))) t
section
def setT (t:Tr):Nat→AObj→(Tr→Option RT)→Option RT :=
  Tr.rec (motive:=fun _=>Nat→AObj→(Tr→Option RT)→Option RT) (fun n x k=>Nat.casesOn (motive:=fun _=>Option RT) n (k (.bin .nil x .nil)) fun _=>none)
    (fun l o r il ir n x k=>Nat.casesOn (motive:=fun _=>Option RT) n (k (.bin l x r)) fun m =>
      Bool.casesOn (motive:=fun _=>Option RT) (Nat.beq (Nat.mod m 2) 0) (ir (Nat.div m 2) x fun r'=>k (.bin l o r')) (il (Nat.div m 2) x fun l'=>k (.bin l' o r))) t
theorem getT_nil (n:Nat):getT .nil n=.dead:=rfl
theorem getT_succ (l r:Tr) (o:AObj) (m:Nat):getT (.bin l o r) (m+1)=if m % 2=0 then getT l (m / 2) else getT r (m / 2):=by
  show (Bool.casesOn (motive:=fun _=>AObj) (Nat.beq (m % 2) 0) (getT r (m / 2)) (getT l (m / 2)))=_
  rw [beq_dec]
  by_cases h:m % 2=0 <;> simp [h]
theorem setT_some {x:AObj} {r:RT}:∀ {t:Tr} {n:Nat} {k:Tr→Option RT},setT t n x k=some r→∃ t',k t'=some r∧∀ m,getT t' m=if m=n then x else getT t m
  | .nil,0,k,h=>⟨_,h,fun m=>by
    cases m with
    | zero=>rfl
    | succ m=>rw [getT_succ];simp [getT_nil]⟩
  | .nil,n+1,k,h=>by cases h
  | .bin l o r',0,k,h=>⟨_,h,fun m=>by
    cases m with
    | zero=>rfl
    | succ m=>simp [getT_succ]⟩
  | .bin l o r',n+1,k,h=>by
    have h':Bool.casesOn (motive:=fun _=>Option RT) (Nat.beq (n % 2) 0) (setT r' (n / 2) x fun r'=>k (.bin l o r')) (setT l (n / 2) x fun l'=>k (.bin l' o r'))=some r:=h
    rw [beq_dec] at h'
    by_cases hn:n % 2=0
    · simp only [hn,decide_true] at h'
      obtain⟨t',h1,h2⟩:=setT_some h'
      refine⟨_,h1,fun m=>?_⟩
      cases m with
      | zero=>rfl
      | succ m =>
        simp only [getT_succ,h2,Nat.add_right_cancel_iff]
        by_cases hm:m % 2=0
        · simp only [hm,if_true]
          by_cases e:m / 2=n / 2
          · have:m=n:=by omega
            simp [e,this]
          · have:m≠n:=fun q=>e (by rw [q])
            simp [e,this]
        · have:m≠n:=fun q=>hm (by rw [q];exact hn)
          simp [hm,this]
    · simp only [hn,decide_false] at h'
      obtain⟨t',h1,h2⟩:=setT_some h'
      refine⟨_,h1,fun m=>?_⟩
      cases m with
      | zero=>rfl
      | succ m =>
        simp only [getT_succ,h2,Nat.add_right_cancel_iff]
        by_cases hm:m % 2=0
        · have:m≠n:=fun q=>hn (by rw [← q];exact hm)
          simp [hm,this]
        · simp only [hm,if_false]
          by_cases e:m / 2=n / 2
          · have:m=n:=by omega
            simp [e,this]
          · have:m≠n:=fun q=>e (by rw [q])
            simp [e,this]
def ab (tr:Tr) (s:Nat):Heap:=(List.range s).map (getT tr)
theorem ab_len (tr:Tr) (s:Nat):(ab tr s).length=s:=by simp [ab]
theorem ab_get (tr:Tr) (s i:Nat):(ab tr s)[i]?=if i<s then some (getT tr i) else none:=by
  unfold ab
  rw [List.getElem?_map]
  by_cases h:i<s
  · simp [h]
  · rw [List.getElem?_eq_none (by simp;omega)];simp [h]
theorem ab_set {tr tr':Tr} {s n:Nat} {x:AObj} (h:∀ m,getT tr' m=if m=n then x else getT tr m):ab tr' s=(ab tr s).set n x:=by
  apply List.ext_getElem?
  intro i
  rw [ab_get,List.getElem?_set,ab_get,ab_len,h]
  by_cases h1:n=i
  · subst h1
    by_cases h2:n<s <;> simp [h2]
  · have:¬ i=n:=fun e=>h1 e.symm
    simp [h1,this]
theorem ab_push {tr tr':Tr} {s:Nat} {x:AObj} (h:∀ m,getT tr' m=if m=s then x else getT tr m):ab tr' (s+1)=ab tr s++[x]:=by
  apply List.ext_getElem?
  intro i
  rw [ab_get,h]
  rcases Nat.lt_trichotomy i s with h1|h1|h1
  · rw [List.getElem?_append_left (by rw [ab_len];exact h1),ab_get]
    simp [h1,show i<s+1 by omega,show ¬ i=s by omega]
  · subst h1
    rw [List.getElem?_append_right (by rw [ab_len];omega),ab_len];simp
  · rw [List.getElem?_eq_none (by simp [ab_len];omega)]
    simp [show ¬ i<s+1 by omega]
def obT (tr:Tr) (s i:Nat):Option AObj:=yes (Nat.ble (Nat.succ i) s) (some (getT tr i)) none
theorem obT_eq (tr:Tr) (s i:Nat):obT tr s i=(ab tr s)[i]?:=by
  unfold obT
  rw [yes_eq,ab_get,ble_dec]
  by_cases h:i<s
  · simp [h,show i.succ≤s from h]
  · simp [h,show ¬ i.succ≤s from h]
def rdT (tr:Tr) (s id off n:Nat) (k:List AV→Option RT):Option RT:=match obT tr s id with
  | some (.cells vs _)=>yes (Nat.ble (off+n) (lenR vs)) (takeR (dropR vs off) n k) none
  | _=>none
theorem rdT_eq (tr:Tr) (s id off n:Nat) (k:List AV→Option RT):rdT tr s id off n k=match rd (ab tr s) id off n with|some vs=>k vs|none=>none:=by
  unfold rdT rd
  rw [obT_eq]
  cases (ab tr s)[id]? with
  | none=>rfl
  | some o =>
    cases o with
    | cells vs own =>
      simp only [yes_eq,takeR_eq,dropR_eq,lenR_eq,Nat.ble_eq]
      split <;> rfl
    | _=>rfl
def rd1T (tr:Tr) (s id off:Nat) (k:AV→Option RT):Option RT:=match obT tr s id with
  | some (.cells vs _)=>match getR vs off with
    | some v=>wV v k
    | none=>none
  | _=>none
theorem rd1T_eq (tr:Tr) (s id off:Nat) (k:AV→Option RT):rd1T tr s id off k=match rd (ab tr s) id off 1 with|some [v]=>k v|_=>none:=by
  unfold rd1T rd
  rw [obT_eq]
  cases (ab tr s)[id]? with
  | none=>rfl
  | some o =>
    cases o with
    | cells vs own =>
      simp only [getR_eq,wV_eq]
      by_cases hl:off+1≤vs.length
      · have e:(vs.drop off).take 1=[vs[off]]:=by
          rw [List.take_one,List.head?_drop];simp [List.getElem?_eq_getElem (show off<vs.length by omega)]
        simp only [hl,if_true,e,List.getElem?_eq_getElem (show off<vs.length by omega)]
      · simp only [hl,if_false,List.getElem?_eq_none (show vs.length≤off by omega)]
    | _=>rfl
def wrT (tr:Tr) (s id off:Nat) (vs:List AV) (k:Tr→Option RT):Option RT:=match obT tr s id with
  | some (.cells cs true)=>yes (Nat.ble (off+lenR vs) (lenR cs)) (spliceR cs off vs fun c=>setT tr id (.cells c true) k) none
  | _=>none
theorem wrT_some {tr:Tr} {s id off:Nat} {vs:List AV} {k:Tr→Option RT} {r:RT} (h:wrT tr s id off vs k=some r):∃ tr',wr (ab tr s) id off vs=some (ab tr' s)∧k tr'=some r:=by
  unfold wrT at h
  rw [obT_eq] at h
  unfold wr
  split at h
  · rename_i cs hob
    simp only [yes_eq,spliceR_eq,lenR_eq,Nat.ble_eq] at h
    split at h
    · rename_i hl
      obtain⟨tr',h1,h2⟩:=setT_some h
      refine⟨tr',?_,h1⟩
      rw [hob]
      simp only [hl,if_true]
      rw [ab_set h2]
    · cases h
  · cases h
def newT (cs:List AV) (tr:Tr) (s:Nat) (K:Tr→Nat→Option RT):Option RT:=setT tr s (.cells cs true) fun tr'=>fN (Nat.succ s) fun s'=>K tr' s'
theorem newT_some {cs:List AV} {tr:Tr} {s:Nat} {K:Tr→Nat→Option RT} {r:RT} (h:newT cs tr s K=some r):∃ tr',K tr' (s+1)=some r∧ab tr' (s+1)=ab tr s++[.cells cs true]:=by
  unfold newT at h
  obtain⟨tr',h1,h2⟩:=setT_some h
  rw [fN_eq] at h1
  exact⟨tr',h1,ab_push h2⟩
def mapT (tr:Tr) (s:Nat) (v:AV) (k:List (AV × AV)→Option RT):Option RT:=match v with
  | .nilmap=>k []
  | .map id=>match obT tr s id with
    | some (.other (.map es _ _))=>k es
    | _=>none
  | _=>none
theorem mapT_eq (tr:Tr) (s:Nat) (v:AV) (k:List (AV × AV)→Option RT):mapT tr s v k=opt (mapAt (ab tr s) v) k:=by
  unfold mapT mapAt
  cases v with
  | map id =>
    simp only [obT_eq]
    cases (ab tr s)[id]? with
    | none=>rfl
    | some o =>
      cases o with
      | other x=>cases x <;> rfl
      | _=>rfl
  | _=>rfl
def ownT (tr:Tr) (s:Nat) (v:AV) (k:Nat→List (AV × AV)→List Nat→Nat→Option RT):Option RT:=match v with
  | .map id=>match obT tr s id with
    | some (.other (.map es bs c))=>k id es bs c
    | _=>none
  | _=>none
theorem ownT_some {tr:Tr} {s:Nat} {v:AV} {k:Nat→List (AV × AV)→List Nat→Nat→Option RT} {r:RT} (h:ownT tr s v k=some r):∃ id es bs c,v=.map id∧(ab tr s)[id]?=some (.other (.map es bs c))∧k id es bs c=some r:=by
  unfold ownT at h
  split at h
  · rw [obT_eq] at h
    split at h
    · rename_i hob;exact⟨_,_,_,_,rfl,hob,h⟩
    · cases h
  · cases h
theorem opt_some {δ:Type} {o:Option δ} {k:δ→Option RT} {r:RT} (h:opt o k=some r):∃ a,o=some a∧k a=some r:=by
  cases o with
  | none=>cases h
  | some a=>exact⟨a,rfl,h⟩
abbrev Kt:=AV→Tr→Nat→Option RT
def putT (tr:Tr) (s id:Nat) (es:List (AV × AV)) (bs:List Nat) (c:Nat) (K:Kt):Option RT:=setT tr id (.other (.map es bs c)) fun tr'=>K (.tuple []) tr' s
def slT (tr:Tr) (s sz:Nat) (v:AV) (k:Nat→List AV→Option RT):Option RT:=match v with
  | .nilslice=>k 0 []
  | .slice id off len sz' _=>yes (Nat.beq sz' sz) (rdT tr s id off (Nat.mul len sz) fun vs=>k len vs) none
  | _=>none
theorem slT_eq (tr:Tr) (s sz:Nat) (v:AV) (k:Nat→List AV→Option RT):slT tr s sz v k=opt (sliceCells (ab tr s) sz v) fun p=>k p.1 p.2:=by
  unfold slT sliceCells
  cases v with
  | slice id off len sz' ex =>
    simp only [yes_eq,rdT_eq,Nat.beq_eq]
    by_cases h:sz'=sz
    · simp only [h,if_true]
      show _=opt (Option.map _ (rd (ab tr s) id off (len * sz))) _
      show (match rd (ab tr s) id off (len * sz) with|some vs=>k len vs|none=>none)=_
      cases rd (ab tr s) id off (len * sz) <;> rfl
    · simp [h,opt]
  | _=>rfl
def slowT (o:AOp) (t:List (Nat × AV)) (tr:Tr) (s:Nat) (K:Kt):Option RT:=yes (Nat.beq o.cls 0) (match o.fx (AOpd.ev t) [] with
  | some (v,_)=>fV v fun v=>K v tr s
  | none=>none) none
def fxT (o:AOp) (t:List (Nat × AV)) (tr:Tr) (s:Nat) (K:Kt):Option RT :=
  match o with
  | .mov x=>wV (evR t x) fun v=>K v tr s
  | .pick c a b=>match evR t c with
    | .bool true=>wV (evR t a) fun v=>K v tr s
    | .bool false=>wV (evR t b) fun v=>K v tr s
    | _=>none
  | .alloc zs=>newT zs tr s fun tr' s'=>K (.ptr s 0) tr' s'
  | .box x=>cellsR (evR t x) fun cs=>newT cs tr s fun tr' s'=>K (.ptr s 0) tr' s'
  | .build zs parts=>fillR t parts zs fun cs=>K (.agg cs) tr s
  | .buildSlice zs parts ln sz=>fillR t parts zs fun cs=>newT cs tr s fun tr' s'=>K (.slice s 0 ln sz true) tr' s'
  | .load1 a=>match evR t a with
    | .ptr id off=>rd1T tr s id off fun v=>K v tr s
    | _=>none
  | .loadN a n=>match evR t a with
    | .ptr id off=>rdT tr s id off n fun vs=>K (.agg vs) tr s
    | _=>none
  | .store a n x=>match evR t a with
    | .ptr id off=>cellsR (evR t x) fun vs=>yes (Nat.beq (lenR vs) n) (yes (allR scal vs) (wrT tr s id off vs fun tr'=>K (.tuple []) tr' s) none) none
    | _=>none
  | .nilCheck x=>match evR t x with
    | .ptr id off=>K (.ptr id off) tr s
    | .fn (.func f) a b=>K (.fn (.func f) a b) tr s
    | _=>none
  | .bin op x y=>match op with
    | .quo=>slowT (.bin .quo x y) t tr s K
    | .rem=>slowT (.bin .rem x y) t tr s K
    | op=>binR op (evR t x) (evR t y) fun v=>K v tr s
  | .not x=>match evR t x with
    | .bool b=>fB (!b) fun b=>K (.bool b) tr s
    | _=>none
  | .mkfn f first caps=>evsR t first fun a=>evsR t caps fun b=>K (.fn f a b) tr s
  | .fieldAddr x off=>match evR t x with
    | .ptr id o=>fN (o+off) fun o=>K (.ptr id o) tr s
    | _=>none
  | .field1 x off=>match evR t x with
    | .agg cs=>match getR cs off with
      | some v=>wV v fun v=>K v tr s
      | none=>none
    | _=>none
  | .fieldN x off n=>match evR t x with
    | .agg cs=>takeR (dropR cs off) n fun cs=>K (.agg cs) tr s
    | _=>none
  | .idxSl x i sz=>match evR t x,evR t i with
    | .slice id off ln sz' _,.int _ n=>yes (Nat.beq sz' sz) (yes (ile 0 n) (yes (!ile ln n) (fN (off+n.toNat * sz) fun o=>K (.ptr id o) tr s) none) none) none
    | _,_=>none
  | .idxArr x i ln sz=>match evR t x,evR t i with
    | .ptr id off,.int _ n=>yes (ile 0 n) (yes (!ile ln n) (fN (off+n.toNat * sz) fun o=>K (.ptr id o) tr s) none) none
    | _,_=>none
  | .extract x i=>match evR t x with
    | .tuple vs=>match getR vs i with
      | some v=>wV v fun v=>K v tr s
      | none=>none
    | _=>none
  | .len x=>match evR t x with
    | .slice _ _ ln _ _=>K (.int .i64 (.ofNat ln)) tr s
    | .nilslice=>K (.int .i64 (.ofNat 0)) tr s
    | _=>none
  | .append x y sz bytes=>slT tr s sz (evR t x) fun n old=>slT tr s sz (evR t y) fun m new=>yes (allR scal new) (yes (Nat.ble (Nat.mul (n+m) bytes) 140737488355328)
      (match evR t x with
      | .nilslice=>fN m fun m=>newT new tr s fun tr' s'=>K (.slice s 0 m sz false) tr' s'
      | .slice id off _ _ _=>match obT tr s id with
        | some (.cells _ true)=>yes (Nat.beq off 0) (fN (n+m) fun l=>appR old new fun cs=>setT tr id .dead fun tr=>newT cs tr s fun tr' s'=>K (.slice s 0 l sz false) tr' s') none
        | _=>none
      | _=>none) none) none
  | .makeSl zs sz bytes ln cp=>match evR t ln,evR t cp with
    | .int _ n,.int _ c=>yes (ile 0 n) (yes (ile n c) (yes (ile ((bytes:Int) * c) 281474976710656) (yes (ile c 9223372036854775807)
      (repR c.toNat zs fun cs=>newT cs tr s fun tr' s'=>fN n.toNat fun l=>fB (ieq n c) fun e=>K (.slice s 0 l sz e) tr' s') none) none) none) none
    | _,_=>none
  | .appZ zs sz bytes x n=>match evR t x,evR t n with
    | .nilslice,.int _ m=>yes (ile 1 m) (yes (Nat.ble (Nat.mul m.toNat bytes) 140737488355328)
      (repR m.toNat zs fun cs=>newT cs tr s fun tr' s'=>fN m.toNat fun l=>K (.slice s 0 l sz false) tr' s') none) none
    | _,_=>none
  | .makeMap=>setT tr s (.other (.map [] [] 0)) fun tr'=>fN (Nat.succ s) fun s'=>K (.map s) tr' s'
  | .mapGet ok z k m i=>wV (evR t i) fun x=>keyR k x x fun _=>mapT tr s (evR t m) fun es=>findR k x es 0 fun r=>match r with
    | some n=>opt (getR es n) fun p=>wV p.2 fun v=>K (if ok=true then .tuple [v,.bool true] else v) tr s
    | none=>K (if ok=true then .tuple [z,.bool false] else z) tr s
  | .mapPut k m i x=>wV (evR t i) fun a=>keyR k a a fun _=>wV (evR t x) fun b=>ownT tr s (evR t m) fun id es bs c=>findR k a es 0 fun r=>match r with
    | some n=>setR es n (a,b) fun es=>putT tr s id es bs c K
    | none=>appR es [(a,b)] fun es=>appR bs [c] fun bs=>fN (Nat.succ c) fun c=>putT tr s id es bs c K
  | .mapDel k m i=>wV (evR t i) fun a=>keyR k a a fun _=>ownT tr s (evR t m) fun id es bs c=>findR k a es 0 fun r=>match r with
    | some n=>eraseR es n fun es=>eraseR bs n fun bs=>putT tr s id es bs c K
    | none=>K (.tuple []) tr s
  | .mapClear m=>ownT tr s (evR t m) fun id _ _ c=>putT tr s id [] [] c K
  | .rangeM m=>match evR t m with
    | .nilmap=>setT tr s (.other (.iter none 0 [] 0)) fun tr'=>fN (Nat.succ s) fun s'=>K (.ptr s 0) tr' s'
    | .map id=>match obT tr s id with
      | some (.other (.map _ _ c))=>setT tr s (.other (.iter (some id) c [] c)) fun tr'=>fN (Nat.succ s) fun s'=>K (.ptr s 0) tr' s'
      | _=>none
    | _=>none
  | .nextM i=>match evR t i with
    | .ptr id 0=>match obT tr s id with
      | some (.other (.iter none _ _ _))=>K (.tuple [.bool false]) tr s
      | some (.other (.iter (some m) since seen last))=>match obT tr s m with
        | some (.other (.map es bs c))=>yes (seen.isEmpty || es.isEmpty || !(bs.all fun b=>decide (last≤b))) (match leftA es bs seen with
          | []=>K (.tuple [.bool false]) tr s
          | [(p,b)]=>yes (Nat.ble (Nat.succ b) since) (appR seen [b] fun seen'=>setT tr id (.other (.iter (some m) since seen' c)) fun tr'=>K (.tuple [.bool true,p.1,p.2]) tr' s) none
          | _=>none) none
        | _=>none
      | _=>none
    | _=>none
  | .entryM i=>match evR t i with
    | .ptr id 0=>match obT tr s id with
      | some (.other (.iter (some m) _ seen last))=>match seen.getLast? with
        | some b=>match obT tr s m with
          | some (.other (.map es bs c))=>yes (Nat.beq c last) (match entryA es bs b with
            | some p=>K (.tuple [p.1,p.2]) tr s
            | none=>none) none
          | _=>none
        | none=>none
      | _=>none
    | _=>none
  | .lenM m=>mapT tr s (evR t m) fun es=>fN (lenR es) fun n=>K (.int .i64 (.ofNat n)) tr s
  | o=>slowT o t tr s K
end
end Go.Abs
end
