/- Several texts as one. -/
import Derived.Test.YtdocpfbfchaekaaGreatA44
import Derived.Test.YtdocpfbfchaekaaGreatAc1
/- Contracts of small functions of package track. -/
namespace Go.Proofs
open Go.Abs
attribute [local simp] AOp.den AOpd.ev lk cellsOf rd_new rd_new0 rd_zero rd_succ wr_new wr_new0 wr_zero wr_succ splice fillA binA scal sliceCells List.length_append argsT AV.sc scL AObj.sc resV getAll AR.get AOp.slots opdSlots opdsSlots partSlots eqAt wrap64
set_option linter.unusedSimpArgs false
set_option linter.unusedVariables false
theorem c_one (H:Heap) (a:Int):ACalls Try.prog F.span_One [.int .i64 a] H (fun v h'=>v=.agg [.int .i64 a,.int .i64 a]∧h'=H):=by
  refine acalls_of ok_span_One rfl fun hcl=>?_
  unfold ac_span_One zo
  simp only [argsT,Nat.zero_add,Nat.reduceAdd]
  repeat (first|(with_reducible first|apply X1|apply X2|apply X3|apply X8)|((with_reducible apply e_end);(simp;exact Rz))|((first|((with_reducible apply O1);rfl)|((with_reducible apply O2);rfl));(simp (disch:=omega);exact Rz);exact Rz;(focus (first|(simp;done)|omega|(simp;omega)))))
  refine q_drop (.inr rfl) (by simp;exact Rz) (by simp) ⟨rfl,rfl⟩
theorem c_upto (H:Heap) (a:Int):ACalls Try.prog F.span_UpTo [.int .i64 a] H (fun v h'=>v=.agg [.int .i64 0,.int .i64 a]∧h'=H):=by
  refine acalls_of ok_span_UpTo rfl fun hcl=>?_
  unfold ac_span_UpTo zo
  simp only [argsT,Nat.zero_add,Nat.reduceAdd]
  repeat (first|(with_reducible first|apply X1|apply X2|apply X3|apply X8)|((with_reducible apply e_end);(simp;exact Rz))|((first|((with_reducible apply O1);rfl)|((with_reducible apply O2);rfl));(simp (disch:=omega);exact Rz);exact Rz;(focus (first|(simp;done)|omega|(simp;omega)))))
  refine q_drop (.inr rfl) (by simp;exact Rz) (by simp) ⟨rfl,rfl⟩
theorem c_plus (H:Heap) (a b c d:Int) (h1:-9223372036854775808≤a+c) (h2:a+c≤9223372036854775807) (h3:-9223372036854775808≤b+d) (h4:b+d≤9223372036854775807) :
    ACalls Try.prog F.span_Plus [.agg [.int .i64 a,.int .i64 b],.agg [.int .i64 c,.int .i64 d]] H (fun v h'=>v=.agg [.int .i64 (a+c),.int .i64 (b+d)]∧h'=H):=by
  refine acalls_of ok_span_Plus rfl fun hcl=>?_
  unfold ac_span_Plus zo
  simp only [argsT,Nat.zero_add,Nat.reduceAdd]
  repeat (first|(with_reducible first|apply X1|apply X2|apply X3|apply X8)|((with_reducible apply e_end);(simp;exact Rz))|((first|((with_reducible apply O1);rfl)|((with_reducible apply O2);rfl));(simp (disch:=omega);exact Rz);exact Rz;(focus (first|(simp;done)|omega|(simp;omega)))))
  refine q_drop (.inr rfl) (by simp;exact Rz) (by simp) ⟨rfl,rfl⟩
theorem c_within (H:Heap) (lo hi:Int) (xs:List Int) (id off:Nat) (ex:Bool) (hs:rd H id off (xs.length * 1)=some (xs.map (AV.int .i64))) (hn:(xs.length:Int)<1000000) :
    ACalls Try.prog F.span_Within [.agg [.int .i64 lo,.int .i64 hi],.slice id off xs.length 1 ex] H (fun v h'=>v=.bool (xs.all fun x=>decide (lo≤x∧x≤hi))∧h'=H):=by
  refine acalls_of ok_span_Within rfl fun hcl=>?_
  unfold ac_span_Within zo
  simp only [argsT,Nat.zero_add,Nat.reduceAdd]
  have hid:=rd_lt hs
  repeat (first|(with_reducible first|apply X1|apply X2|apply X6|apply X8)|((with_reducible apply e_end);(simp;exact Rz))|((with_reducible apply O1);rfl;(simp (disch:=omega);exact Rz);exact Rz;(focus (first|(simp;done)|omega|(simp;omega)))))
  refine e_loop (ι:={ i:Nat // i≤xs.length∧∀ j,(hj:j<xs.length)→j<i→lo≤xs[j]∧xs[j]≤hi })
    (fun i=>[(2,.ptr H.length 0),(7,.slice id off xs.length 1 ex),(8,.int .i64 xs.length),(9,.int .i64 i.1)]) (fun _=>H++[.cells [.int .i64 lo,.int .i64 hi] true]) (fun i=>xs.length-i.1) ⟨0,by simp⟩ ?_ ?_
  · exact .inr <| le_same (by simp [AObj.sc,scL,AV.sc]) (by simp [AV.sc];refine⟨Rz,⟨by omega,Rz⟩,Rz,Rz⟩)
  · rintro⟨i,hi1,hi2⟩
    dsimp only
    repeat (first|(with_reducible first|apply X1|apply X2|apply X8)|((with_reducible apply e_end);(simp;exact Rz))|((with_reducible apply O1);rfl;(simp (disch:=omega);exact Rz);exact Rz;(focus (first|(simp;done)|omega|(simp;omega)))))
    (with_reducible apply e_dec);(simp;exact Rz)
    · intro hlt
      have hlt:i<xs.length:=by omega
      have hx:rd H id (off+i) 1=some [.int .i64 xs[i]]:=by
        have:=rd_at hs hlt
        simp [List.take_one,hlt] at this
        exact this
      repeat (first|(with_reducible first|apply X1|apply X2|apply X5|apply X6|apply X8)|((with_reducible apply e_end);(simp;exact Rz))|((with_reducible apply O1);rfl;(simp (disch:=omega) [rd_old _ hid,hx];exact Rz);exact Rz;(focus (first|(simp;done)|omega|(simp;omega)))))
      (with_reducible apply g_no);(simp;exact Rz)
      · intro h1
        repeat (first|(with_reducible first|apply X1|apply X2|apply X3|apply X8|apply X9|apply Y3|apply Y5)|((with_reducible apply e_end);(simp;exact Rz))|((with_reducible apply O1);rfl;(simp (disch:=omega) [h1];exact Rz);exact Rz;(focus (first|(simp;done)|omega|(simp;omega))))|((with_reducible apply Z9);(simp (disch:=omega) [h1];exact Rz))|((with_reducible apply Z2);(simp (disch:=omega) [h1];exact Rz)))
        refine q_drop (.inr rfl) (by simp;exact Rz) (by simp) ⟨?_,rfl⟩
        simp only [AV.bool.injEq]
        refine (List.all_eq_false.2 ⟨xs[i],List.getElem_mem hlt,?_⟩).symm
        simp;omega
      · intro h1
        repeat (first|(with_reducible apply X8)|((with_reducible apply e_end);(simp;exact Rz))|((with_reducible apply O1);rfl;(simp (disch:=omega) [h1];exact Rz);exact Rz;(focus (first|(simp;done)|omega|(simp;omega))))|((with_reducible apply Z7);(simp (disch:=omega) [h1];exact Rz)))
        (with_reducible apply e_dec);(simp [h1];exact Rz)
        · intro h2
          repeat (first|(with_reducible first|apply X1|apply X2|apply X3|apply X8|apply X9|apply Y3|apply Y5)|((with_reducible apply e_end);(simp;exact Rz))|((with_reducible apply O1);rfl;(simp (disch:=omega);exact Rz);exact Rz;(focus (first|(simp;done)|omega|(simp;omega)))))
          refine q_drop (.inr rfl) (by simp;exact Rz) (by simp) ⟨?_,rfl⟩
          simp only [AV.bool.injEq]
          refine (List.all_eq_false.2 ⟨xs[i],List.getElem_mem hlt,?_⟩).symm
          simp;omega
        · intro h2
          repeat (first|(with_reducible first|apply X2|apply X5|apply X8|apply Y2)|((with_reducible apply e_end);(simp;exact Rz))|((with_reducible apply O1);rfl;(simp (disch:=omega);exact Rz);exact Rz;(focus (first|(simp;done)|omega|(simp;omega)))))
          refine q_again ⟨i+1,hlt,?_⟩ ?_ ?_
          · intro j hj hji
            rcases Nat.lt_or_ge j i with h|h
            · exact hi2 j hj h
            · have:j=i:=by omega
              subst this;omega
          · dsimp only;omega
          · exact .inr <| le_same (by simp [AObj.sc,scL,AV.sc]) (by simp [AV.sc];refine⟨Rz,⟨by omega,Rz⟩,Rz,Rz⟩)
    · intro hge
      repeat (first|(with_reducible first|apply X1|apply X2|apply X3|apply X4|apply X8|apply Y1|apply Y4|apply Y6)|((with_reducible apply e_end);(simp;exact Rz))|((with_reducible apply O1);rfl;(simp (disch:=omega);exact Rz);exact Rz;(focus (first|(simp;done)|omega|(simp;omega)))))
      refine q_drop (.inr rfl) (by simp;exact Rz) (by simp) ⟨?_,rfl⟩
      simp only [AV.bool.injEq]
      refine (List.all_eq_true.2 fun x hx=>?_).symm
      obtain⟨j,hj,rfl⟩:=List.getElem_of_mem hx
      have:=hi2 j hj (by omega)
      simp;omega
theorem c_fits (H:Heap) (a b lo hi:Int) :
    ACalls Try.prog F.span_Fits [.agg [.int .i64 a,.int .i64 b],.agg [.int .i64 lo,.int .i64 hi]] H (fun v h'=>v=.bool (decide (a≤b∧lo≤a∧b≤hi))∧h'=H):=by
  refine acalls_of ok_span_Fits rfl fun hcl=>?_
  unfold ac_span_Fits zo
  simp only [argsT,Nat.zero_add,Nat.reduceAdd]
  repeat (first|(with_reducible first|apply X1|apply X2|apply X8)|((with_reducible apply e_end);(simp;exact Rz))|((with_reducible apply O1);rfl;(simp (disch:=omega);exact Rz);exact Rz;(focus (first|(simp;done)|omega|(simp;omega)))))
  (with_reducible apply g_yes);(simp;exact Rz)
  · intro h1
    repeat (first|((with_reducible apply O1);rfl;(simp (disch:=omega) [h1];exact Rz);exact Rz;(focus (first|(simp;done)|omega|(simp;omega))))|((with_reducible apply Z7);(simp (disch:=omega) [h1];exact Rz)))
    (with_reducible apply e_call);(simp;exact Rz)
    · exact c_within _ lo hi [a,b] (H.length+2) 0 true (by simp) (by simp)
    · rintro _ _ ⟨rfl,rfl⟩
      repeat (first|(with_reducible first|apply X3|apply X8)|((with_reducible apply e_end);(simp;exact Rz))|((with_reducible apply O1);rfl;(simp (disch:=omega) [h1];exact Rz);exact Rz;(focus (first|(simp;done)|omega|(simp;omega)))))
      refine q_drop (.inr rfl) (by simp;exact Rz) (by simp) ⟨?_,rfl⟩
      have h2:((lo≤a∧a≤hi)∧lo≤b∧b≤hi)↔(a≤b∧lo≤a∧b≤hi):=by omega
      rw [AV.bool.injEq,Bool.eq_iff_iff];simpa using h2
  · intro h1
    repeat (first|(with_reducible first|apply X3|apply X8)|((with_reducible apply e_end);(simp;exact Rz))|((with_reducible apply O1);rfl;(simp (disch:=omega) [h1];exact Rz);exact Rz;(focus (first|(simp;done)|omega|(simp;omega))))|((with_reducible apply Z1);(simp (disch:=omega) [h1];exact Rz)))
    refine q_drop (.inr rfl) (by simp;exact Rz) (by simp) ⟨?_,rfl⟩
    simp [h1]
def sidedB (side rLo rHi:Int):Bool:=decide ((side=0∧rLo=0∧rHi=0)∨((side=1∨side=2)∧rLo≤rHi∧500≤rLo∧rHi≤20000))
theorem le_id {H:Heap} {t t':List (Nat × AV)} (hv:∀ x∈t',x.2.sc H.length=true∧lk t x.1=x.2):Le H ⟨t,H⟩ ⟨t',H⟩:=by
  have:=le_drop (H:=H) (G:=[]) (t:=t) (t':=t') hv
  simpa using this
theorem q_drop0 {H:Heap} {t:List (Nat × AV)} {rs:List AR} {R:AV→Heap→Prop} {e:Exit} {v:AV} (he:e=.normal∨e=.ret) (hv:Red (resV ⟨t,H⟩ rs) (some v)) (hs:v.sc H.length=true) (hr:R v H):EQ (Post H rs R) e t H:=by
  have:=q_drop (H:=H) (G:=[]) (t:=t) (rs:=rs) (R:=R) (e:=e) (v:=v) he (by simpa using hv) hs hr
  simpa using this
theorem flat_row {α:Type} {f:α→List AV} {k:Nat} (hk:∀ a,(f a).length=k):∀ (l:List α) (i:Nat) (hi:i<l.length),((l.flatMap f).drop (i * k)).take k=f l[i]
  | [],i,hi=>by simp at hi
  | a :: l,0,_=>by simp [List.take_append,hk]
  | a :: l,i+1,hi=>by
    have h1:(i+1) * k=(f a).length+i * k:=by rw [hk,Nat.add_mul];omega
    rw [List.flatMap_cons,h1,List.drop_append]
    simp only [List.drop_eq_nil_of_le (show (f a).length≤(f a).length+i * k by omega),List.nil_append,Nat.add_sub_cancel_left]
    simpa using flat_row hk l i (by simpa using hi)
theorem rd_sub {H:Heap} {id off n:Nat} {vs:List AV} (h:rd H id off n=some vs) {j m:Nat} (hj:j+m≤n):rd H id (off+j) m=some ((vs.drop j).take m):=by
  unfold rd at h ⊢
  split at h
  · rename_i cs own hc
    split at h
    · simp only [Option.some.injEq] at h
      subst h
      rw [if_pos (by omega),List.drop_take,List.take_take,List.drop_drop,Nat.min_eq_left (by omega)]
    · cases h
  · cases h
theorem rd_row {α:Type} {f:α→List AV} {k:Nat} (hk:∀ a,(f a).length=k) {H:Heap} {id off:Nat} {l:List α} (h:rd H id off (l.length * k)=some (l.flatMap f)) {i:Nat} (hi:i<l.length):rd H id (off+i * k) k=some (f l[i]):=by
  rw [rd_at h hi,flat_row hk]
structure Str where
  id:Int
  lLo:Int
  lHi:Int
  fLo:Int
  fHi:Int
  rLo:Int
  rHi:Int
  side:Int
  wall:Int
def Str.av (s:Str):List AV:=[.int .i64 s.id,.int .i64 s.lLo,.int .i64 s.lHi,.int .i64 s.fLo,.int .i64 s.fHi,.int .i64 s.rLo,.int .i64 s.rHi,.int .u8 s.side,.int .i64 s.wall]
theorem Str.av_length (s:Str):s.av.length=9:=rfl
def Str.ok (s:Str):Prop:=sidedB s.side s.rLo s.rHi=true∧(0≤s.id∧s.id≤9999)∧(s.lLo≤s.lHi∧1≤s.lLo∧s.lHi≤30000)∧(s.fLo≤s.fHi∧0≤s.fLo∧s.fHi≤5000)∧(0≤s.wall∧s.wall≤5000)
def okAt (l:List Str) (i:Nat):Prop:=∃ h:i<l.length,l[i].ok∧∀ _:0<i,(l[i-1]'(by omega)).id<l[i].id
def limAt (a1 a2 a3 a4 a5 a9:Int):Nat→Prop
  | 0=>a1≤a1∧0≤a1∧a1≤9999
  | 1=>a2≤a3∧1≤a2∧a3≤30000
  | 2=>a4≤a5∧0≤a4∧a5≤5000
  | 3=>a9≤a9∧0≤a9∧a9≤5000
  | _=>True
def validL (l:List Str):Prop:=(1≤l.length∧l.length≤12)∧∀ i,i<l.length→okAt l i
theorem le_take {H G G2:Heap} {t t':List (Nat × AV)} (hG:∀ o∈G,o.sc (H.length+G.length)=true) (hv:∀ x∈t',x.2.sc (H.length+G.length)=true∧Red (lk t x.1) x.2):Le H ⟨t,H++(G++G2)⟩ ⟨t',H++G⟩:=by
  refine⟨by simp,fun i=>i,fun _ _=>rfl,?_,fun i j _ _ _ _ _ _ h=>h,?_⟩
  · intro i o hi
    simp only at hi ⊢
    rcases Nat.lt_or_ge i H.length with h|h
    · rw [List.getElem?_append_left h] at hi
      exact .inr (.inl ⟨hi,by rw [List.getElem?_append_left h];exact hi⟩)
    · rw [List.getElem?_append_right h] at hi
      have h1:=hG o (List.mem_of_getElem? hi)
      have h2:i-H.length<G.length:=(List.getElem?_eq_some_iff.1 hi).1
      refine .inr (.inr ⟨by simpa using h1,?_⟩)
      rw [List.getElem?_append_right h,List.getElem?_append_left h2,hi]
      cases o with
      | dead=>rfl
      | other x=>simp only [AObj.ren,oren_id (ρ:=fun i=>i) (m:=H.length+G.length) (fun _ _=>rfl) x h1]
      | cells vs own =>
        have:renL (fun i=>i) vs=vs:=renL_id (m:=H.length+G.length) (fun _ _=>rfl) vs h1
        simp only [AObj.ren,this]
  · intro k
    rcases lk_mem (t:=t') k with h|h
    · exact .inl h
    · obtain⟨h1,h2⟩:=hv _ h
      refine .inr ⟨by simpa using h1,?_⟩
      have h3:(lk t' k).ren (fun i=>i)=lk t' k:=ren_id (m:=H.length+G.length) (fun _ _=>rfl) _ h1
      show lk t k=(lk t' k).ren (fun i=>i)
      rw [h3];exact h2
theorem bof (p:Prop):∃ b:Bool,(b=true↔p):=by
  classical exact⟨decide p,by simp⟩
def chooseF (us:List Int) (i:Int):Int:=us.getD (i.toNat % us.length) 0
def someF (lo hi b:Int):Int:=lo+b % (hi-lo+1)
def strAt (l:List Str) (j:Nat):Str:=l.getD j ⟨0,0,0,0,0,0,0,0,0⟩
def longF (us:List Int) (l:List Str) (j:Nat):Int:=someF (strAt l j).lLo (strAt l j).lHi (chooseF us (2 * j))
def fallF (us:List Int) (l:List Str) (j:Nat):Int:=someF (strAt l j).fLo (strAt l j).fHi (chooseF us (2 * j+1))
def avL (f:Nat→Int) (n:Nat):List AV:=(List.range n).map fun j=>.int .i64 (f j)
theorem avL_length (f:Nat→Int) (n:Nat):(avL f n).length=n:=by simp [avL]
theorem at_new0 (H G:Heap):(H++G)[H.length]?=G[0]?:=by simp [List.getElem?_append_right]
theorem at_new (H G:Heap) (k:Nat):(H++G)[H.length+k]?=G[k]?:=by simp [List.getElem?_append_right]
theorem set_new0 (H G:Heap) (o:AObj):(H++G).set H.length o=H++G.set 0 o:=by simp [List.set_append]
theorem set_new (H G:Heap) (k:Nat) (o:AObj):(H++G).set (H.length+k) o=H++G.set k o:=by simp [List.set_append]
end Go.Proofs
