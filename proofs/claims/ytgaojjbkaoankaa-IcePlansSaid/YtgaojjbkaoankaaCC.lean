/- Several texts as one. -/
import Derived.Test.YtgaojjbkaoankaaA44
import Derived.Test.YtgaojjbkaoankaaAc1
/- Contracts of small functions of package track. -/
namespace Go.Proofs
open Go.Abs
attribute [local simp] AOp.den AOpd.ev lk cellsOf rd_new rd_new0 rd_zero rd_succ wr_new wr_new0 wr_zero wr_succ splice fillA binA scal sliceCells List.length_append argsT AV.sc scL AObj.sc resV getAll AR.get AOp.slots opdSlots opdsSlots partSlots eqAt wrap64
set_option linter.unusedSimpArgs false
set_option linter.unusedVariables false
theorem c_one (H:Heap) (a:Int):ACalls Try.prog F.span_One [.int .i64 a] H (fun v h'=>v=.agg [.int .i64 a,.int .i64 a]∧h'=H):=by
  refine acalls_of ok_span_One rfl fun hcl=>?_
  unfold ac_span_One zo
  simp only [argsT,Nat.zero_add,Nat.reduceAdd]
  repeat (first|(with_reducible first|apply X1|apply X2|apply X3|apply X8)|((with_reducible apply e_end);(simp;exact Rz))|((first|((with_reducible apply O1);rfl)|((with_reducible apply O2);rfl));(simp (disch:=omega);exact Rz);exact Rz;(focus (first|(simp;done)|omega|(simp;omega)))))
  refine q_drop (.inr rfl) (by simp;exact Rz) (by simp) ⟨rfl,rfl⟩
theorem c_upto (H:Heap) (a:Int):ACalls Try.prog F.span_UpTo [.int .i64 a] H (fun v h'=>v=.agg [.int .i64 0,.int .i64 a]∧h'=H):=by
  refine acalls_of ok_span_UpTo rfl fun hcl=>?_
  unfold ac_span_UpTo zo
  simp only [argsT,Nat.zero_add,Nat.reduceAdd]
  repeat (first|(with_reducible first|apply X1|apply X2|apply X3|apply X8)|((with_reducible apply e_end);(simp;exact Rz))|((first|((with_reducible apply O1);rfl)|((with_reducible apply O2);rfl));(simp (disch:=omega);exact Rz);exact Rz;(focus (first|(simp;done)|omega|(simp;omega)))))
  refine q_drop (.inr rfl) (by simp;exact Rz) (by simp) ⟨rfl,rfl⟩
theorem c_plus (H:Heap) (a b c d:Int) (h1:-9223372036854775808≤a+c) (h2:a+c≤9223372036854775807) (h3:-9223372036854775808≤b+d) (h4:b+d≤9223372036854775807) :
    ACalls Try.prog F.span_Plus [.agg [.int .i64 a,.int .i64 b],.agg [.int .i64 c,.int .i64 d]] H (fun v h'=>v=.agg [.int .i64 (a+c),.int .i64 (b+d)]∧h'=H):=by
  refine acalls_of ok_span_Plus rfl fun hcl=>?_
  unfold ac_span_Plus zo
  simp only [argsT,Nat.zero_add,Nat.reduceAdd]
  repeat (first|(with_reducible first|apply X1|apply X2|apply X3|apply X8)|((with_reducible apply e_end);(simp;exact Rz))|((first|((with_reducible apply O1);rfl)|((with_reducible apply O2);rfl));(simp (disch:=omega);exact Rz);exact Rz;(focus (first|(simp;done)|omega|(simp;omega)))))
  refine q_drop (.inr rfl) (by simp;exact Rz) (by simp) ⟨rfl,rfl⟩
theorem c_within (H:Heap) (lo hi:Int) (xs:List Int) (id off:Nat) (ex:Bool) (hs:rd H id off (xs.length * 1)=some (xs.map (AV.int .i64))) (hn:(xs.length:Int)<1000000) :
    ACalls Try.prog F.span_Within [.agg [.int .i64 lo,.int .i64 hi],.slice id off xs.length 1 ex] H (fun v h'=>v=.bool (xs.all fun x=>decide (lo≤x∧x≤hi))∧h'=H):=by
  refine acalls_of ok_span_Within rfl fun hcl=>?_
  unfold ac_span_Within zo
  simp only [argsT,Nat.zero_add,Nat.reduceAdd]
  have hid:=rd_lt hs
  repeat (first|(with_reducible first|apply X1|apply X2|apply X6|apply X8)|((with_reducible apply e_end);(simp;exact Rz))|((with_reducible apply O1);rfl;(simp (disch:=omega);exact Rz);exact Rz;(focus (first|(simp;done)|omega|(simp;omega)))))
  refine e_loop (ι:={ i:Nat // i≤xs.length∧∀ j,(hj:j<xs.length)→j<i→lo≤xs[j]∧xs[j]≤hi })
    (fun i=>[(2,.ptr H.length 0),(7,.slice id off xs.length 1 ex),(8,.int .i64 xs.length),(9,.int .i64 i.1)]) (fun _=>H++[.cells [.int .i64 lo,.int .i64 hi] true]) (fun i=>xs.length-i.1) ⟨0,by simp⟩ ?_ ?_
  · exact .inr <| le_same (by simp [AObj.sc,scL,AV.sc]) (by simp [AV.sc];refine⟨Rz,⟨by omega,Rz⟩,Rz,Rz⟩)
  · rintro⟨i,hi1,hi2⟩
    dsimp only
    repeat (first|(with_reducible first|apply X1|apply X2|apply X8)|((with_reducible apply e_end);(simp;exact Rz))|((with_reducible apply O1);rfl;(simp (disch:=omega);exact Rz);exact Rz;(focus (first|(simp;done)|omega|(simp;omega)))))
    (with_reducible apply e_dec);(simp;exact Rz)
    · intro hlt
      have hlt:i<xs.length:=by omega
      have hx:rd H id (off+i) 1=some [.int .i64 xs[i]]:=by
        have:=rd_at hs hlt
        simp [List.take_one,hlt] at this
        exact this
      repeat (first|(with_reducible first|apply X1|apply X2|apply X5|apply X6|apply X8)|((with_reducible apply e_end);(simp;exact Rz))|((with_reducible apply O1);rfl;(simp (disch:=omega) [rd_old _ hid,hx];exact Rz);exact Rz;(focus (first|(simp;done)|omega|(simp;omega)))))
      (with_reducible apply g_no);(simp;exact Rz)
      · intro h1
        repeat (first|(with_reducible first|apply X1|apply X2|apply X3|apply X8|apply X9|apply Y3|apply Y5)|((with_reducible apply e_end);(simp;exact Rz))|((with_reducible apply O1);rfl;(simp (disch:=omega) [h1];exact Rz);exact Rz;(focus (first|(simp;done)|omega|(simp;omega))))|((with_reducible apply Z9);(simp (disch:=omega) [h1];exact Rz))|((with_reducible apply Z2);(simp (disch:=omega) [h1];exact Rz)))
        refine q_drop (.inr rfl) (by simp;exact Rz) (by simp) ⟨?_,rfl⟩
        simp only [AV.bool.injEq]
        refine (List.all_eq_false.2 ⟨xs[i],List.getElem_mem hlt,?_⟩).symm
        simp;omega
      · intro h1
        repeat (first|(with_reducible apply X8)|((with_reducible apply e_end);(simp;exact Rz))|((with_reducible apply O1);rfl;(simp (disch:=omega) [h1];exact Rz);exact Rz;(focus (first|(simp;done)|omega|(simp;omega))))|((with_reducible apply Z7);(simp (disch:=omega) [h1];exact Rz)))
        (with_reducible apply e_dec);(simp [h1];exact Rz)
        · intro h2
          repeat (first|(with_reducible first|apply X1|apply X2|apply X3|apply X8|apply X9|apply Y3|apply Y5)|((with_reducible apply e_end);(simp;exact Rz))|((with_reducible apply O1);rfl;(simp (disch:=omega);exact Rz);exact Rz;(focus (first|(simp;done)|omega|(simp;omega)))))
          refine q_drop (.inr rfl) (by simp;exact Rz) (by simp) ⟨?_,rfl⟩
          simp only [AV.bool.injEq]
          refine (List.all_eq_false.2 ⟨xs[i],List.getElem_mem hlt,?_⟩).symm
          simp;omega
        · intro h2
          repeat (first|(with_reducible first|apply X2|apply X5|apply X8|apply Y2)|((with_reducible apply e_end);(simp;exact Rz))|((with_reducible apply O1);rfl;(simp (disch:=omega);exact Rz);exact Rz;(focus (first|(simp;done)|omega|(simp;omega)))))
          refine q_again ⟨i+1,hlt,?_⟩ ?_ ?_
          · intro j hj hji
            rcases Nat.lt_or_ge j i with h|h
            · exact hi2 j hj h
            · have:j=i:=by omega
              subst this;omega
          · dsimp only;omega
          · exact .inr <| le_same (by simp [AObj.sc,scL,AV.sc]) (by simp [AV.sc];refine⟨Rz,⟨by omega,Rz⟩,Rz,Rz⟩)
    · intro hge
      repeat (first|(with_reducible first|apply X1|apply X2|apply X3|apply X4|apply X8|apply Y1|apply Y4|apply Y6)|((with_reducible apply e_end);(simp;exact Rz))|((with_reducible apply O1);rfl;(simp (disch:=omega);exact Rz);exact Rz;(focus (first|(simp;done)|omega|(simp;omega)))))
      refine q_drop (.inr rfl) (by simp;exact Rz) (by simp) ⟨?_,rfl⟩
      simp only [AV.bool.injEq]
      refine (List.all_eq_true.2 fun x hx=>?_).symm
      obtain⟨j,hj,rfl⟩:=List.getElem_of_mem hx
      have:=hi2 j hj (by omega)
      simp;omega
theorem c_fits (H:Heap) (a b lo hi:Int) :
    ACalls Try.prog F.span_Fits [.agg [.int .i64 a,.int .i64 b],.agg [.int .i64 lo,.int .i64 hi]] H (fun v h'=>v=.bool (decide (a≤b∧lo≤a∧b≤hi))∧h'=H):=by
  refine acalls_of ok_span_Fits rfl fun hcl=>?_
  unfold ac_span_Fits zo
  simp only [argsT,Nat.zero_add,Nat.reduceAdd]
  repeat (first|(with_reducible first|apply X1|apply X2|apply X8)|((with_reducible apply e_end);(simp;exact Rz))|((with_reducible apply O1);rfl;(simp (disch:=omega);exact Rz);exact Rz;(focus (first|(simp;done)|omega|(simp;omega)))))
  (with_reducible apply g_yes);(simp;exact Rz)
  · intro h1
    repeat (first|((with_reducible apply O1);rfl;(simp (disch:=omega) [h1];exact Rz);exact Rz;(focus (first|(simp;done)|omega|(simp;omega))))|((with_reducible apply Z7);(simp (disch:=omega) [h1];exact Rz)))
    (with_reducible apply e_call);(simp;exact Rz)
    · exact c_within _ lo hi [a,b] (H.length+2) 0 true (by simp) (by simp)
    · rintro _ _ ⟨rfl,rfl⟩
      repeat (first|(with_reducible first|apply X3|apply X8)|((with_reducible apply e_end);(simp;exact Rz))|((with_reducible apply O1);rfl;(simp (disch:=omega) [h1];exact Rz);exact Rz;(focus (first|(simp;done)|omega|(simp;omega)))))
      refine q_drop (.inr rfl) (by simp;exact Rz) (by simp) ⟨?_,rfl⟩
      have h2:((lo≤a∧a≤hi)∧lo≤b∧b≤hi)↔(a≤b∧lo≤a∧b≤hi):=by omega
      rw [AV.bool.injEq,Bool.eq_iff_iff];simpa using h2
  · intro h1
    repeat (first|(with_reducible first|apply X3|apply X8)|((with_reducible apply e_end);(simp;exact Rz))|((with_reducible apply O1);rfl;(simp (disch:=omega) [h1];exact Rz);exact Rz;(focus (first|(simp;done)|omega|(simp;omega))))|((with_reducible apply Z1);(simp (disch:=omega) [h1];exact Rz)))
    refine q_drop (.inr rfl) (by simp;exact Rz) (by simp) ⟨?_,rfl⟩
    simp [h1]
theorem c_limits (H:Heap) (id lLo lHi fLo fHi rLo rHi side wall:Int) :
    ACalls Try.prog F.track_limits [.agg [.int .i64 id,.int .i64 lLo,.int .i64 lHi,.int .i64 fLo,.int .i64 fHi,.int .i64 rLo,.int .i64 rHi,.int .u8 side,.int .i64 wall]] H
      (fun v h'=>v=.agg [.int .i64 id,.int .i64 id,.int .i64 0,.int .i64 9999,.int .i64 lLo,.int .i64 lHi,.int .i64 1,.int .i64 30000,.int .i64 fLo,.int .i64 fHi,.int .i64 0,.int .i64 5000,.int .i64 wall,.int .i64 wall,.int .i64 0,.int .i64 5000]∧h'=H):=by
  refine acalls_of ok_track_limits rfl fun hcl=>?_
  unfold ac_track_limits zo
  simp only [argsT,Nat.zero_add,Nat.reduceAdd]
  repeat (first|(with_reducible first|apply X1|apply X2|apply X8|apply Y9)|((with_reducible apply e_end);(simp;exact Rz))|((first|((with_reducible apply O1);rfl)|((with_reducible apply P1);rfl)|((with_reducible apply P2);rfl));(simp (disch:=omega);exact Rz);exact Rz;(focus (first|(simp;done)|omega|(simp;omega)))))
  (with_reducible apply d_call);(simp;exact Rz);exact c_one _ _;simp
  skip
  (with_reducible apply d_call);(simp;exact Rz);exact c_upto _ _;simp
  repeat (first|((with_reducible apply P1);rfl;(simp (disch:=omega);exact Rz);exact Rz;(focus (first|(simp;done)|omega|(simp;omega))))|((with_reducible apply P6);rfl;(simp (disch:=omega);exact Rz);exact Rz;(focus (first|(simp [pr];done)|(simp [pr];omega)))))
  (with_reducible apply d_call);(simp;exact Rz);exact c_upto _ _;simp
  repeat (first|((with_reducible apply P1);rfl;(simp (disch:=omega);exact Rz);exact Rz;(focus (first|(simp;done)|omega|(simp;omega))))|((with_reducible apply P6);rfl;(simp (disch:=omega);exact Rz);exact Rz;(focus (first|(simp [pr];done)|(simp [pr];omega)))))
  (with_reducible apply d_call);(simp;exact Rz);exact c_one _ _;simp
  skip
  (with_reducible apply d_call);(simp;exact Rz);exact c_upto _ _;simp
  repeat (first|(with_reducible first|apply X3|apply X8)|((with_reducible apply d_end);(simp;exact Rz))|((first|((with_reducible apply P1);rfl)|((with_reducible apply P4);rfl));(simp (disch:=omega);exact Rz);exact Rz;(focus (first|(simp;done)|omega|(simp;omega)))))
  refine q_drop (.inr rfl) (by simp;exact Rz) (by simp) ⟨rfl,rfl⟩
def sidedB (side rLo rHi:Int):Bool:=decide ((side=0∧rLo=0∧rHi=0)∨((side=1∨side=2)∧rLo≤rHi∧500≤rLo∧rHi≤20000))
theorem c_sided (H:Heap) (id lLo lHi fLo fHi rLo rHi side wall:Int) :
    ACalls Try.prog F.track_sided [.agg [.int .i64 id,.int .i64 lLo,.int .i64 lHi,.int .i64 fLo,.int .i64 fHi,.int .i64 rLo,.int .i64 rHi,.int .u8 side,.int .i64 wall]] H
      (fun v h'=>v=.bool (sidedB side rLo rHi)∧h'=H):=by
  refine acalls_of ok_track_sided rfl fun hcl=>?_
  unfold ac_track_sided zo
  simp only [argsT,Nat.zero_add,Nat.reduceAdd]
  repeat (first|(with_reducible first|apply X1|apply X2|apply X6|apply X8)|((with_reducible apply e_end);(simp;exact Rz))|((with_reducible apply O1);rfl;(simp (disch:=omega);exact Rz);exact Rz;(focus (first|(simp;done)|omega|(simp;omega)))))
  (with_reducible apply e_dec);(simp;exact Rz)
  · intro h1
    repeat (first|(with_reducible first|apply X1|apply X2|apply X3|apply X8|apply X9|apply Y3)|((with_reducible apply e_end);(simp;exact Rz))|((with_reducible apply O1);rfl;(simp (disch:=omega);exact Rz);exact Rz;(focus (first|(simp;done)|omega|(simp;omega)))))
    refine q_drop (.inr rfl) (by simp;exact Rz) (by simp) ⟨?_,rfl⟩
    rw [AV.bool.injEq,Bool.eq_iff_iff];simp [sidedB];omega
  · intro h1
    repeat (first|(with_reducible first|apply X1|apply X2|apply X8)|((with_reducible apply e_end);(simp;exact Rz))|((with_reducible apply O1);rfl;(simp (disch:=omega);exact Rz);exact Rz;(focus (first|(simp;done)|omega|(simp;omega)))))
    (with_reducible apply e_dec);(simp;exact Rz)
    · intro h2
      repeat (first|(with_reducible first|apply X1|apply X2|apply X5|apply X8)|((with_reducible apply O1);rfl;(simp (disch:=omega) [h2];exact Rz);exact Rz;(focus (first|(simp;done)|omega|(simp;omega))))|((with_reducible apply Z9);(simp (disch:=omega) [h2];exact Rz)))
      (with_reducible apply e_call);(simp;exact Rz);exact c_fits _ _ _ _ _
      rintro _ _ ⟨rfl,rfl⟩
      repeat (first|(with_reducible first|apply X3|apply X8|apply X9|apply Y3)|((with_reducible apply e_end);(simp;exact Rz))|((with_reducible apply O1);rfl;(simp (disch:=omega);exact Rz);exact Rz;(focus (first|(simp;done)|omega|(simp;omega)))))
      refine q_drop (.inr rfl) (by simp;exact Rz) (by simp) ⟨?_,rfl⟩
      rw [AV.bool.injEq,Bool.eq_iff_iff];simp [sidedB];omega
    · intro h2
      repeat (first|(with_reducible first|apply X2|apply X8)|((with_reducible apply e_end);(simp;exact Rz))|((with_reducible apply O1);rfl;(simp (disch:=omega);exact Rz);exact Rz;(focus (first|(simp;done)|omega|(simp;omega)))))
      (with_reducible apply e_dec);(simp;exact Rz)
      · intro h3
        repeat (first|(with_reducible first|apply X1|apply X2)|((with_reducible apply O1);rfl;(simp (disch:=omega);exact Rz);exact Rz;(focus (first|(simp;done)|omega|(simp;omega)))))
        (with_reducible apply e_call);(simp;exact Rz);exact c_fits _ _ _ _ _
        rintro _ _ ⟨rfl,rfl⟩
        repeat (first|(with_reducible first|apply X3|apply X8|apply X9|apply Y3)|((with_reducible apply e_end);(simp;exact Rz))|((with_reducible apply O1);rfl;(simp (disch:=omega);exact Rz);exact Rz;(focus (first|(simp;done)|omega|(simp;omega)))))
        refine q_drop (.inr rfl) (by simp;exact Rz) (by simp) ⟨?_,rfl⟩
        rw [AV.bool.injEq,Bool.eq_iff_iff];simp [sidedB];omega
      · intro h3
        repeat (first|(with_reducible first|apply X1|apply X2|apply X3|apply X5|apply X8|apply Y2)|((with_reducible apply e_end);(simp;exact Rz))|((with_reducible apply O1);rfl;(simp (disch:=omega);exact Rz);exact Rz;(focus (first|(simp;done)|omega|(simp;omega)))))
        refine q_drop (.inr rfl) (by simp;exact Rz) (by simp) ⟨?_,rfl⟩
        rw [AV.bool.injEq,Bool.eq_iff_iff];simp [sidedB];omega
theorem le_id {H:Heap} {t t':List (Nat × AV)} (hv:∀ x∈t',x.2.sc H.length=true∧lk t x.1=x.2):Le H ⟨t,H⟩ ⟨t',H⟩:=by
  have:=le_drop (H:=H) (G:=[]) (t:=t) (t':=t') hv
  simpa using this
theorem q_drop0 {H:Heap} {t:List (Nat × AV)} {rs:List AR} {R:AV→Heap→Prop} {e:Exit} {v:AV} (he:e=.normal∨e=.ret) (hv:Red (resV ⟨t,H⟩ rs) (some v)) (hs:v.sc H.length=true) (hr:R v H):EQ (Post H rs R) e t H:=by
  have:=q_drop (H:=H) (G:=[]) (t:=t) (rs:=rs) (R:=R) (e:=e) (v:=v) he (by simpa using hv) hs hr
  simpa using this
theorem flat_row {α:Type} {f:α→List AV} {k:Nat} (hk:∀ a,(f a).length=k):∀ (l:List α) (i:Nat) (hi:i<l.length),((l.flatMap f).drop (i * k)).take k=f l[i]
  | [],i,hi=>by simp at hi
  | a :: l,0,_=>by simp [List.take_append,hk]
  | a :: l,i+1,hi=>by
    have h1:(i+1) * k=(f a).length+i * k:=by rw [hk,Nat.add_mul];omega
    rw [List.flatMap_cons,h1,List.drop_append]
    simp only [List.drop_eq_nil_of_le (show (f a).length≤(f a).length+i * k by omega),List.nil_append,Nat.add_sub_cancel_left]
    simpa using flat_row hk l i (by simpa using hi)
theorem rd_sub {H:Heap} {id off n:Nat} {vs:List AV} (h:rd H id off n=some vs) {j m:Nat} (hj:j+m≤n):rd H id (off+j) m=some ((vs.drop j).take m):=by
  unfold rd at h ⊢
  split at h
  · rename_i cs own hc
    split at h
    · simp only [Option.some.injEq] at h
      subst h
      rw [if_pos (by omega),List.drop_take,List.take_take,List.drop_drop,Nat.min_eq_left (by omega)]
    · cases h
  · cases h
theorem rd_row {α:Type} {f:α→List AV} {k:Nat} (hk:∀ a,(f a).length=k) {H:Heap} {id off:Nat} {l:List α} (h:rd H id off (l.length * k)=some (l.flatMap f)) {i:Nat} (hi:i<l.length):rd H id (off+i * k) k=some (f l[i]):=by
  rw [rd_at h hi,flat_row hk]
structure Str where
  id:Int
  lLo:Int
  lHi:Int
  fLo:Int
  fHi:Int
  rLo:Int
  rHi:Int
  side:Int
  wall:Int
def Str.av (s:Str):List AV:=[.int .i64 s.id,.int .i64 s.lLo,.int .i64 s.lHi,.int .i64 s.fLo,.int .i64 s.fHi,.int .i64 s.rLo,.int .i64 s.rHi,.int .u8 s.side,.int .i64 s.wall]
theorem Str.av_length (s:Str):s.av.length=9:=rfl
def Str.ok (s:Str):Prop:=sidedB s.side s.rLo s.rHi=true∧(0≤s.id∧s.id≤9999)∧(s.lLo≤s.lHi∧1≤s.lLo∧s.lHi≤30000)∧(s.fLo≤s.fHi∧0≤s.fLo∧s.fHi≤5000)∧(0≤s.wall∧s.wall≤5000)
def okAt (l:List Str) (i:Nat):Prop:=∃ h:i<l.length,l[i].ok∧∀ _:0<i,(l[i-1]'(by omega)).id<l[i].id
def limAt (a1 a2 a3 a4 a5 a9:Int):Nat→Prop
  | 0=>a1≤a1∧0≤a1∧a1≤9999
  | 1=>a2≤a3∧1≤a2∧a3≤30000
  | 2=>a4≤a5∧0≤a4∧a5≤5000
  | 3=>a9≤a9∧0≤a9∧a9≤5000
  | _=>True
theorem c_right (H:Heap) (l:List Str) (id off:Nat) (ex:Bool) (hs:rd H id off (l.length * 9)=some (l.flatMap Str.av)) (hn:(l.length:Int)<1000000) :
    ACalls Try.prog F.track_right [.slice id off l.length 9 ex] H (fun v h'=>h'=H∧∃ k:Nat,v=.int .i64 k∧k≤l.length∧(k=l.length↔∀ i,i<l.length→okAt l i)):=by
  refine acalls_of ok_track_right rfl fun hcl=>?_
  unfold ac_track_right zo
  simp only [argsT,Nat.zero_add,Nat.reduceAdd]
  have hid:=rd_lt hs
  repeat (first|(with_reducible first|apply X1|apply X2|apply X5|apply X6|apply X7|apply X8)|((with_reducible apply e_end);(simp;exact Rz))|((with_reducible apply O1);rfl;(simp (disch:=omega);exact Rz);exact Rz;(focus (first|(simp;done)|omega|(simp;omega)))))
  refine e_loop (ι:={ i:Nat // i≤l.length∧∀ j,j<i→okAt l j })
    (fun i=>[(0,.slice id off l.length 9 ex),(3,.int .i64 i.1),(9,.int .i64 l.length),(10,.int .i64 i.1)]) (fun _=>H) (fun i=>l.length-i.1) ⟨0,by simp⟩ ?_ ?_
  · exact .inr <| le_id (by simp [hid])
  · rintro⟨i,hi1,hi2⟩
    dsimp only
    repeat (first|(with_reducible first|apply X1|apply X2|apply X8)|((with_reducible apply e_end);(simp;exact Rz))|((with_reducible apply O1);rfl;(simp (disch:=omega);exact Rz);exact Rz;(focus (first|(simp;done)|omega|(simp;omega)))))
    (with_reducible apply e_dec);(simp;exact Rz)
    · intro hlt
      have hlt:i<l.length:=by omega
      have hx:=rd_row Str.av_length hs hlt
      generalize hsi:l[i]=s at hx
      obtain⟨a1,a2,a3,a4,a5,a6,a7,a8,a9⟩:=s
      simp only [Str.av] at hx
      repeat (first|(with_reducible first|apply X1|apply X2|apply X5|apply X6|apply X8|apply Y9)|((with_reducible apply e_end);(simp;exact Rz))|((first|((with_reducible apply O1);rfl)|((with_reducible apply O2);rfl)|((with_reducible apply P1);rfl));(simp (disch:=omega) [rd_old _ hid,hx];exact Rz);exact Rz;(focus (first|(simp;done)|omega|(simp;omega)))))
      refine d_cut (fun t' h'=>∃ b:Bool,t'=[(0,.slice id off l.length 9 ex),(3,.int .i64 i),(5,.ptr H.length 0),(9,.int .i64 l.length),(10,.int .i64 i),(34,.bool b)]∧h'=H++[.cells [.int .i64 a1,.int .i64 a2,.int .i64 a3,.int .i64 a4,.int .i64 a5,.int .i64 a6,.int .i64 a7,.int .u8 a8,.int .i64 a9] true]∧(b=false↔sidedB a8 a6 a7=true∧∀ _:0<i,(l[i-1]'(by omega)).id<a1)) ?_ ?_
      · (with_reducible apply dg_yes);(simp;exact Rz)
        · intro h0
          have h0:0<i:=by omega
          have hy:rd H id (off+(i-1) * 9) 1=some [.int .i64 (l[i-1]'(by omega)).id]:=by
            have:=rd_sub (rd_row Str.av_length hs (show i-1<l.length by omega)) (show 0+1≤9 by omega)
            simpa [Str.av] using this
          generalize hz:(l[i-1]'(by omega)).id=z at hy
          repeat (first|((first|((with_reducible apply P1);rfl)|((with_reducible apply P2);rfl));(simp (disch:=omega) [h0,rd_old _ hid,hy];exact Rz);exact Rz;(focus (first|(simp;done)|omega|(simp;omega))))|((with_reducible apply Z8);(simp (disch:=omega) [h0,rd_old _ hid,hy];exact Rz)))
          (with_reducible apply dg_no);(simp;exact Rz)
          · intro h1
            repeat (first|((with_reducible apply d_end);(simp;exact Rz))|((with_reducible apply P1);rfl;(simp (disch:=omega) [h1];exact Rz);exact Rz;(focus (first|(simp;done)|omega|(simp;omega))))|((with_reducible apply Z6);(simp (disch:=omega) [h1];exact Rz)))
            exact q_keep ⟨true,rfl,rfl,by simp [hz,h0];omega⟩
          · intro h1
            repeat (first|((with_reducible apply P2);rfl;(simp (disch:=omega) [h1];exact Rz);exact Rz;(focus (first|(simp;done)|omega|(simp;omega))))|((with_reducible apply Z8);(simp (disch:=omega) [h1];exact Rz)))
            (with_reducible apply d_call);(simp;exact Rz);exact c_sided _ _ _ _ _ _ _ _ _ _;simp
            repeat (first|((with_reducible apply d_end);(simp;exact Rz))|((with_reducible apply P1);rfl;(simp (disch:=omega) [h1];exact Rz);exact Rz;(focus (first|(simp;done)|omega|(simp;omega))))|((with_reducible apply Z8);(simp (disch:=omega) [h1];exact Rz)))
            exact q_keep ⟨!sidedB a8 a6 a7,rfl,rfl,by simp [hz,h0];omega⟩
        · intro h0
          repeat (first|((first|((with_reducible apply P1);rfl)|((with_reducible apply P2);rfl));(simp (disch:=omega) [h0];exact Rz);exact Rz;(focus (first|(simp;done)|omega|(simp;omega))))|((with_reducible apply Z8);(simp (disch:=omega) [h0];exact Rz))|((with_reducible apply Z5);(simp (disch:=omega) [h0];exact Rz)))
          (with_reducible apply d_call);(simp;exact Rz);exact c_sided _ _ _ _ _ _ _ _ _ _;simp
          repeat (first|((with_reducible apply d_end);(simp;exact Rz))|((with_reducible apply P1);rfl;(simp (disch:=omega) [h0];exact Rz);exact Rz;(focus (first|(simp;done)|omega|(simp;omega))))|((with_reducible apply Z8);(simp (disch:=omega) [h0];exact Rz)))
          exact q_keep ⟨!sidedB a8 a6 a7,rfl,rfl,by simp [show ¬ 0<i by omega]⟩
      · rintro _ _ ⟨b,rfl,rfl,hb⟩
        cases b with
        | true =>
          repeat (first|(with_reducible first|apply X1|apply X2|apply X3|apply X4|apply X8|apply Y1|apply Y4|apply Y6|apply Y8)|((with_reducible apply q_block_other);decide)|((with_reducible apply e_end);(simp;exact Rz))|((with_reducible apply O1);rfl;(simp (disch:=omega);exact Rz);exact Rz;(focus (first|(simp;done)|omega|(simp;omega))))|((with_reducible apply Z9);(simp (disch:=omega);exact Rz)))
          refine q_drop (.inr rfl) (by simp;exact Rz) (by simp) ⟨rfl,i,rfl,hi1,?_⟩
          refine⟨fun h=>by omega,fun hall=>?_⟩
          obtain⟨_,hok,hlt2⟩:=hall i hlt
          rw [hsi] at hok hlt2
          have:=hb.2 ⟨hok.1,hlt2⟩
          cases this
        | false =>
          repeat (first|(with_reducible first|apply X1|apply X2|apply X5|apply X8)|((with_reducible apply O1);rfl;(simp (disch:=omega);exact Rz);exact Rz;(focus (first|(simp;done)|omega|(simp;omega))))|((with_reducible apply W3);(simp (disch:=omega);exact Rz)))
          (with_reducible apply e_call);(simp;exact Rz);exact c_limits _ _ _ _ _ _ _ _ _ _
          rintro _ _ ⟨rfl,rfl⟩
          repeat (first|(with_reducible first|apply X6|apply X8)|((with_reducible apply e_end);(simp;exact Rz))|((with_reducible apply O1);rfl;(simp (disch:=omega);exact Rz);exact Rz;(focus (first|(simp;done)|omega|(simp;omega)))))
          refine e_loop (ι:={ k:Nat // k≤4∧∀ j,j<k→limAt a1 a2 a3 a4 a5 a9 j })
            (fun k=>[(0,.slice id off l.length 9 ex),(3,.int .i64 i),(9,.int .i64 l.length),(10,.int .i64 i),(36,.agg [.int .i64 a1,.int .i64 a1,.int .i64 0,.int .i64 9999,.int .i64 a2,.int .i64 a3,.int .i64 1,.int .i64 30000,.int .i64 a4,.int .i64 a5,.int .i64 0,.int .i64 5000,.int .i64 a9,.int .i64 a9,.int .i64 0,.int .i64 5000]),(37,.int .i64 k.1)]) (fun _=>H) (fun k=>4-k.1) ⟨0,by simp⟩ ?_ ?_
          · exact .inr <| le_drop (by simp [hid])
          · rintro⟨k,hk1,hk2⟩
            dsimp only
            repeat (first|(with_reducible first|apply X1|apply X2|apply X8)|((with_reducible apply e_end);(simp;exact Rz))|((with_reducible apply O1);rfl;(simp (disch:=omega);exact Rz);exact Rz;(focus (first|(simp;done)|omega|(simp;omega)))))
            (with_reducible apply e_dec);(simp;exact Rz)
            · intro hk
              have hk4:k=0∨k=1∨k=2∨k=3:=by omega
              have fin:∀ (G:Heap),¬ limAt a1 a2 a3 a4 a5 a9 k→(i=l.length↔∀ j,j<l.length→okAt l j):=by
                intro G hno
                refine⟨fun h=>by omega,fun hall=>?_⟩
                obtain⟨_,hok,_⟩:=hall i hlt
                rw [hsi] at hok
                simp only [Str.ok] at hok
                rcases hk4 with rfl|rfl|rfl|rfl <;> simp only [limAt] at hno <;> omega
              have next:limAt a1 a2 a3 a4 a5 a9 k→∀ j,j<k+1→limAt a1 a2 a3 a4 a5 a9 j:=by
                intro hk5 j hj
                rcases Nat.lt_or_ge j k with h|h
                · exact hk2 j h
                · obtain rfl:j=k:=by omega
                  exact hk5
              rcases hk4 with rfl|rfl|rfl|rfl
              all_goals
                repeat (first|(with_reducible first|apply X1|apply X2|apply X5|apply X6|apply X8)|((with_reducible apply e_end);(simp;exact Rz))|((first|((with_reducible apply O1);rfl)|((with_reducible apply O2);rfl));(simp (disch:=omega);exact Rz);exact Rz;(focus (first|(simp;done)|omega|(simp;omega)))))
                (with_reducible apply e_call);(simp;exact Rz);exact c_fits _ _ _ _ _
                rintro _ _ ⟨rfl,rfl⟩
                repeat (first|(with_reducible apply X8)|((with_reducible apply e_end);(simp;exact Rz))|((with_reducible apply O1);rfl;(simp (disch:=omega);exact Rz);exact Rz;(focus (first|(simp;done)|omega|(simp;omega)))))
                (with_reducible apply e_cond);(simp;exact Rz)
                · intro hc
                  simp at hc
                  repeat (first|(with_reducible first|apply X1|apply X2|apply X3|apply X4|apply X8|apply Y1|apply Y4|apply Y6|apply Y8)|((with_reducible apply q_block_other);decide)|((with_reducible apply e_end);(simp;exact Rz))|((with_reducible apply O1);rfl;(simp (disch:=omega);exact Rz);exact Rz;(focus (first|(simp;done)|omega|(simp;omega)))))
                  exact q_drop (.inr rfl) (by simp;exact Rz) (by simp) ⟨rfl,i,rfl,hi1,fin H (by simp only [limAt];omega)⟩
                · intro hc
                  simp at hc
                  repeat (first|(with_reducible first|apply X2|apply X5|apply X8|apply Y2)|((with_reducible apply e_end);(simp;exact Rz))|((with_reducible apply O1);rfl;(simp (disch:=omega);exact Rz);exact Rz;(focus (first|(simp;done)|omega|(simp;omega)))))
                  exact q_again ⟨_,by omega,next (by simp only [limAt];omega)⟩ (by dsimp only;omega) (.inr <| le_drop (by simp [hid]))
            · intro hk
              obtain rfl:k=4:=by omega
              repeat (first|(with_reducible first|apply X2|apply X4|apply X8|apply Y1|apply Y2|apply Y4|apply Y6)|((with_reducible apply e_end);(simp;exact Rz))|((with_reducible apply O1);rfl;(simp (disch:=omega);exact Rz);exact Rz;(focus (first|(simp;done)|omega|(simp;omega)))))
              refine q_again ⟨i+1,by omega,fun j hj=>?_⟩ (by dsimp only;omega) (.inr <| le_id (by simp [hid]))
              rcases Nat.lt_or_ge j i with h|h
              · exact hi2 j h
              · obtain rfl:j=i:=by omega
                have e0:=hk2 0 (by omega)
                have e1:=hk2 1 (by omega)
                have e2:=hk2 2 (by omega)
                have e3:=hk2 3 (by omega)
                simp only [limAt] at e0 e1 e2 e3
                refine⟨hlt,?_,?_⟩
                · rw [hsi]
                  exact⟨(hb.1 rfl).1,e0.2,e1,e2,e3.2⟩
                · rw [hsi]
                  exact (hb.1 rfl).2
    · intro hge
      repeat (first|(with_reducible first|apply X1|apply X2|apply X3|apply X4|apply X8|apply Y1|apply Y4|apply Y6|apply Y8)|((with_reducible apply e_end);(simp;exact Rz))|((with_reducible apply O1);rfl;(simp (disch:=omega);exact Rz);exact Rz;(focus (first|(simp;done)|omega|(simp;omega)))))
      refine q_drop0 (.inr rfl) (by simp;exact Rz) (by simp) ⟨rfl,i,rfl,hi1,?_⟩
      have:i=l.length:=by omega
      subst this
      simp;exact hi2
def validL (l:List Str):Prop:=(1≤l.length∧l.length≤12)∧∀ i,i<l.length→okAt l i
theorem c_Check (H:Heap) (l:List Str) (id off:Nat) (ex:Bool) (hs:rd H id off (l.length * 9)=some (l.flatMap Str.av)) (hn:(l.length:Int)<1000000) :
    ACalls Try.prog F.track_Check [.agg [.slice id off l.length 9 ex]] H (fun v h'=>h'=H∧∃ e:Int,v=.int .i64 e∧((validL l∧e=0)∨(¬ validL l∧e=10))):=by
  refine acalls_of ok_track_Check rfl fun hcl=>?_
  unfold ac_track_Check zo
  simp only [argsT,Nat.zero_add,Nat.reduceAdd]
  have hid:=rd_lt hs
  repeat (first|(with_reducible first|apply X1|apply X2|apply X8)|((with_reducible apply e_end);(simp;exact Rz))|((with_reducible apply O1);rfl;(simp (disch:=omega);exact Rz);exact Rz;(focus (first|(simp;done)|omega|(simp;omega)))))
  (with_reducible apply e_call);(simp;exact Rz)
  · exact c_within _ 1 12 [(l.length:Int)] (H.length+1) 0 true (by simp) (by simp)
  rintro v _ ⟨hv,rfl⟩
  by_cases hb:1≤l.length∧l.length≤12
  · obtain rfl:v=.bool true:=by rw [hv,AV.bool.injEq];simp;omega
    repeat (first|((with_reducible apply O1);rfl;(simp (disch:=omega);exact Rz);exact Rz;(focus (first|(simp;done)|omega|(simp;omega))))|((with_reducible apply Z7);(simp (disch:=omega);exact Rz)))
    (with_reducible apply e_call);(simp;exact Rz)
    · exact c_right _ l id off ex (by rw [rd_old _ hid];exact hs) hn
    rintro v _ ⟨rfl,k,rfl,hk1,hk2⟩
    repeat (first|(with_reducible apply X8)|((with_reducible apply e_end);(simp;exact Rz))|((with_reducible apply O1);rfl;(simp (disch:=omega);exact Rz);exact Rz;(focus (first|(simp;done)|omega|(simp;omega))))|((with_reducible apply Z7);(simp (disch:=omega);exact Rz)))
    (with_reducible apply e_dec);(simp;exact Rz)
    · intro hk
      repeat (first|(with_reducible first|apply X1|apply X2|apply X3|apply X8|apply X9)|((with_reducible apply e_end);(simp;exact Rz))|((with_reducible apply O1);rfl;(simp (disch:=omega);exact Rz);exact Rz;(focus (first|(simp;done)|omega|(simp;omega)))))
      refine q_drop (.inr rfl) (by simp;exact Rz) (by simp) ⟨rfl,10,rfl,.inr ⟨fun hval=>?_,rfl⟩⟩
      have:=hk2.2 hval.2
      omega
    · intro hk
      repeat (first|(with_reducible first|apply X1|apply X2|apply X3|apply X5|apply X8)|((with_reducible apply e_end);(simp;exact Rz))|((with_reducible apply O1);rfl;(simp (disch:=omega);exact Rz);exact Rz;(focus (first|(simp;done)|omega|(simp;omega)))))
      refine q_drop (.inr rfl) (by simp;exact Rz) (by simp) ⟨rfl,0,rfl,.inl ⟨⟨hb,hk2.1 (by omega)⟩,rfl⟩⟩
  · obtain rfl:v=.bool false:=by rw [hv,AV.bool.injEq];simp;omega
    repeat (first|(with_reducible first|apply X1|apply X2|apply X3|apply X8|apply X9)|((with_reducible apply e_end);(simp;exact Rz))|((with_reducible apply O1);rfl;(simp (disch:=omega);exact Rz);exact Rz;(focus (first|(simp;done)|omega|(simp;omega))))|((with_reducible apply Z9);(simp (disch:=omega);exact Rz))|((with_reducible apply Z2);(simp (disch:=omega);exact Rz)))
    refine q_drop (.inr rfl) (by simp;exact Rz) (by simp) ⟨rfl,10,rfl,.inr ⟨fun hval=>hb hval.1,rfl⟩⟩
theorem c_rwithin (H:Heap) (n lo hi:Int):ACalls Try.prog F.ref01_within [.int .i64 n,.int .i64 lo,.int .i64 hi] H (fun v h'=>v=.bool (decide (lo≤n∧n≤hi))∧h'=H):=by
  refine acalls_of ok_ref01_within rfl fun hcl=>?_
  unfold ac_ref01_within zo
  simp only [argsT,Nat.zero_add,Nat.reduceAdd]
  repeat (first|(with_reducible first|apply X1|apply X2|apply X8)|((with_reducible apply e_end);(simp;exact Rz))|((with_reducible apply O1);rfl;(simp (disch:=omega);exact Rz);exact Rz;(focus (first|(simp;done)|omega|(simp;omega)))))
  (with_reducible apply g_yes);(simp;exact Rz)
  · intro h1
    repeat (first|(with_reducible first|apply X3|apply X8)|((with_reducible apply e_end);(simp;exact Rz))|((with_reducible apply O1);rfl;(simp (disch:=omega) [h1];exact Rz);exact Rz;(focus (first|(simp;done)|omega|(simp;omega))))|((with_reducible apply Z7);(simp (disch:=omega) [h1];exact Rz)))
    refine q_drop0 (.inr rfl) (by simp;exact Rz) (by simp) ⟨by simp [h1],rfl⟩
  · intro h1
    repeat (first|(with_reducible first|apply X3|apply X8)|((with_reducible apply e_end);(simp;exact Rz))|((with_reducible apply O1);rfl;(simp (disch:=omega) [h1];exact Rz);exact Rz;(focus (first|(simp;done)|omega|(simp;omega))))|((with_reducible apply Z1);(simp (disch:=omega) [h1];exact Rz)))
    refine q_drop0 (.inr rfl) (by simp;exact Rz) (by simp) ⟨by simp [h1],rfl⟩
theorem c_rspan (H:Heap) (a b lo hi:Int):ACalls Try.prog F.ref01_span [.agg [.int .i64 a,.int .i64 b],.int .i64 lo,.int .i64 hi] H (fun v h'=>v=.bool (decide (a≤b∧lo≤a∧b≤hi))∧h'=H):=by
  refine acalls_of ok_ref01_span rfl fun hcl=>?_
  unfold ac_ref01_span zo
  simp only [argsT,Nat.zero_add,Nat.reduceAdd]
  repeat (first|(with_reducible first|apply X1|apply X2|apply X8)|((with_reducible apply e_end);(simp;exact Rz))|((with_reducible apply O1);rfl;(simp (disch:=omega);exact Rz);exact Rz;(focus (first|(simp;done)|omega|(simp;omega)))))
  (with_reducible apply e_call);(simp;exact Rz);exact c_rwithin _ _ _ _
  rintro _ _ ⟨rfl,rfl⟩
  repeat ((with_reducible apply O1);rfl;(simp (disch:=omega) [-Bool.decide_and];exact Rz);exact Rz;(focus (first|(simp;done)|omega|(simp;omega))))
  (with_reducible apply g_yes);(simp [-Bool.decide_and];exact Rz)
  · intro h1
    repeat (first|(with_reducible first|apply X3|apply X8)|((with_reducible apply e_end);(simp;exact Rz))|((with_reducible apply O1);rfl;(simp (disch:=omega) [h1];exact Rz);exact Rz;(focus (first|(simp;done)|omega|(simp;omega))))|((with_reducible apply Z7);(simp (disch:=omega) [h1];exact Rz)))
    refine q_drop (.inr rfl) (by simp;exact Rz) (by simp) ⟨?_,rfl⟩
    rw [AV.bool.injEq,Bool.eq_iff_iff];simp [h1]
  · intro h1
    repeat (first|(with_reducible first|apply X3|apply X8)|((with_reducible apply e_end);(simp;exact Rz))|((with_reducible apply O1);rfl;(simp (disch:=omega) [h1];exact Rz);exact Rz;(focus (first|(simp;done)|omega|(simp;omega))))|((with_reducible apply Z1);(simp (disch:=omega) [h1];exact Rz)))
    refine q_drop (.inr rfl) (by simp;exact Rz) (by simp) ⟨?_,rfl⟩
    rw [AV.bool.injEq,Bool.eq_iff_iff];simp;omega
theorem c_great (H:Heap) (id off n:Nat) (ex:Bool) (hid:id<H.length):ACalls Try.prog F.ref01_Great [.agg [.slice id off n 9 ex]] H (fun v h'=>v=.bool (decide (20<n))∧h'=H):=by
  refine acalls_of ok_ref01_Great rfl fun hcl=>?_
  unfold ac_ref01_Great zo
  simp only [argsT,Nat.zero_add,Nat.reduceAdd]
  repeat (first|(with_reducible first|apply X1|apply X2|apply X3|apply X8)|((with_reducible apply e_end);(simp;exact Rz))|((with_reducible apply O1);rfl;(simp (disch:=omega);exact Rz);exact Rz;(focus (first|(simp;done)|omega|(simp;omega)))))
  refine q_drop (.inr rfl) (by simp;exact Rz) (by simp) ⟨?_,rfl⟩
  rw [AV.bool.injEq,Bool.eq_iff_iff];simp;omega
theorem c_rwithin' (H:Heap) (n lo hi:Int) {b:Bool} (hb:b=true↔lo≤n∧n≤hi):ACalls Try.prog F.ref01_within [.int .i64 n,.int .i64 lo,.int .i64 hi] H (fun v h'=>v=.bool b∧h'=H):=by
  have:b=decide (lo≤n∧n≤hi):=by rw [Bool.eq_iff_iff,hb];simp
  subst this
  exact c_rwithin H n lo hi
theorem c_rspan' (H:Heap) (a c lo hi:Int) {b:Bool} (hb:b=true↔a≤c∧lo≤a∧c≤hi):ACalls Try.prog F.ref01_span [.agg [.int .i64 a,.int .i64 c],.int .i64 lo,.int .i64 hi] H (fun v h'=>v=.bool b∧h'=H):=by
  have:b=decide (a≤c∧lo≤a∧c≤hi):=by rw [Bool.eq_iff_iff,hb];simp
  subst this
  exact c_rspan H a c lo hi
theorem le_take {H G G2:Heap} {t t':List (Nat × AV)} (hG:∀ o∈G,o.sc (H.length+G.length)=true) (hv:∀ x∈t',x.2.sc (H.length+G.length)=true∧Red (lk t x.1) x.2):Le H ⟨t,H++(G++G2)⟩ ⟨t',H++G⟩:=by
  refine⟨by simp,fun i=>i,fun _ _=>rfl,?_,fun i j _ _ _ _ _ _ h=>h,?_⟩
  · intro i o hi
    simp only at hi ⊢
    rcases Nat.lt_or_ge i H.length with h|h
    · rw [List.getElem?_append_left h] at hi
      exact .inr (.inl ⟨hi,by rw [List.getElem?_append_left h];exact hi⟩)
    · rw [List.getElem?_append_right h] at hi
      have h1:=hG o (List.mem_of_getElem? hi)
      have h2:i-H.length<G.length:=(List.getElem?_eq_some_iff.1 hi).1
      refine .inr (.inr ⟨by simpa using h1,?_⟩)
      rw [List.getElem?_append_right h,List.getElem?_append_left h2,hi]
      cases o with
      | dead=>rfl
      | other x=>simp only [AObj.ren,oren_id (ρ:=fun i=>i) (m:=H.length+G.length) (fun _ _=>rfl) x h1]
      | cells vs own =>
        have:renL (fun i=>i) vs=vs:=renL_id (m:=H.length+G.length) (fun _ _=>rfl) vs h1
        simp only [AObj.ren,this]
  · intro k
    rcases lk_mem (t:=t') k with h|h
    · exact .inl h
    · obtain⟨h1,h2⟩:=hv _ h
      refine .inr ⟨by simpa using h1,?_⟩
      have h3:(lk t' k).ren (fun i=>i)=lk t' k:=ren_id (m:=H.length+G.length) (fun _ _=>rfl) _ h1
      show lk t k=(lk t' k).ren (fun i=>i)
      rw [h3];exact h2
theorem bof (p:Prop):∃ b:Bool,(b=true↔p):=by
  classical exact⟨decide p,by simp⟩
theorem c_rTrack (H:Heap) (l:List Str) (id off:Nat) (ex:Bool) (hs:rd H id off (l.length * 9)=some (l.flatMap Str.av)) (hn:(l.length:Int)<1000000) :
    ACalls Try.prog F.ref01_Track [.agg [.slice id off l.length 9 ex]] H (fun v h'=>h'=H∧∃ b:Bool,v=.bool b∧(b=true↔validL l)):=by
  refine acalls_of ok_ref01_Track rfl fun hcl=>?_
  unfold ac_ref01_Track zo
  simp only [argsT,Nat.zero_add,Nat.reduceAdd]
  have hid:=rd_lt hs
  repeat (first|(with_reducible first|apply X1|apply X2|apply X8)|((with_reducible apply e_end);(simp;exact Rz))|((with_reducible apply O1);rfl;(simp (disch:=omega);exact Rz);exact Rz;(focus (first|(simp;done)|omega|(simp;omega)))))
  obtain⟨b0,hb0⟩:=bof (1≤(l.length:Int)∧(l.length:Int)≤12)
  (with_reducible apply e_call);(simp;exact Rz);exact c_rwithin' _ _ _ _ hb0
  rintro _ _ ⟨rfl,rfl⟩
  cases b0 with
  | false =>
    repeat (first|(with_reducible first|apply X1|apply X2|apply X3|apply X8|apply X9)|((with_reducible apply e_end);(simp;exact Rz))|((with_reducible apply O1);rfl;(simp (disch:=omega);exact Rz);exact Rz;(focus (first|(simp;done)|omega|(simp;omega))))|((with_reducible apply Z9);(simp (disch:=omega);exact Rz)))
    refine q_drop (.inr rfl) (by simp;exact Rz) (by simp) ⟨rfl,false,rfl,?_⟩
    simp only [validL,Bool.false_eq_true,false_iff] at hb0 ⊢
    omega
  | true =>
    repeat (first|(with_reducible first|apply X1|apply X2|apply X5|apply X6|apply X8)|((with_reducible apply e_end);(simp;exact Rz))|((with_reducible apply O1);rfl;(simp (disch:=omega);exact Rz);exact Rz;(focus (first|(simp;done)|omega|(simp;omega))))|((with_reducible apply W3);(simp (disch:=omega);exact Rz)))
    have hb1:1≤l.length∧l.length≤12:=by have:=hb0.1 rfl;omega
    refine e_loop (ι:={ i:Nat // i≤l.length∧∀ j,j<i→okAt l j })
      (fun i=>[(1,.ptr H.length 0),(3,.int .i64 i.1)]) (fun _=>H++[.cells [.slice id off l.length 9 ex] true]) (fun i=>l.length-i.1) ⟨0,by simp⟩ ?_ ?_
    · exact .inr <| le_same (by simp [hid];omega) (by simp [hid,Red])
    · rintro⟨i,hi1,hi2⟩
      dsimp only
      repeat (first|(with_reducible first|apply X1|apply X2|apply X8)|((with_reducible apply e_end);(simp;exact Rz))|((with_reducible apply O1);rfl;(simp (disch:=omega);exact Rz);exact Rz;(focus (first|(simp;done)|omega|(simp;omega)))))
      (with_reducible apply e_dec);(simp;exact Rz)
      · intro hlt
        have hlt:i<l.length:=by omega
        have hx:=rd_row Str.av_length hs hlt
        generalize hsi:l[i]=s at hx
        obtain⟨a1,a2,a3,a4,a5,a6,a7,a8,a9⟩:=s
        simp only [Str.av] at hx
        repeat (first|(with_reducible first|apply X1|apply X2|apply X5|apply X6|apply X8|apply Y9)|((with_reducible apply e_end);(simp;exact Rz))|((first|((with_reducible apply O1);rfl)|((with_reducible apply O2);rfl)|((with_reducible apply P1);rfl)|((with_reducible apply P2);rfl));(simp (disch:=omega) [rd_old _ hid,hx];exact Rz);exact Rz;(focus (first|(simp;done)|omega|(simp;omega)))))
        refine d_cut (fun t' h'=>∃ b:Bool,t'=[(1,.ptr H.length 0),(3,.int .i64 i),(4,.ptr (H.length+1) 0),(59,.bool b)]∧h'=H++[.cells [.slice id off l.length 9 ex] true,.cells [.int .i64 a1,.int .i64 a2,.int .i64 a3,.int .i64 a4,.int .i64 a5,.int .i64 a6,.int .i64 a7,.int .u8 a8,.int .i64 a9] true]∧(b=false↔(0≤a1∧a1≤9999)∧(∀ _:0<i,(l[i-1]'(by omega)).id<a1)∧(a2≤a3∧1≤a2∧a3≤30000)∧(a4≤a5∧0≤a4∧a5≤5000)∧(0≤a9∧a9≤5000))) ?_ ?_
        · obtain⟨bA,hA⟩:=bof (0≤a1∧a1≤9999)
          obtain⟨bB,hB⟩:=bof (a2≤a3∧1≤a2∧a3≤30000)
          obtain⟨bC,hC⟩:=bof (a4≤a5∧0≤a4∧a5≤5000)
          obtain⟨bD,hD⟩:=bof (0≤a9∧a9≤5000)
          (with_reducible apply d_call);(simp;exact Rz);exact c_rwithin' _ _ _ _ hA;simp
          cases bA with
          | false =>
            repeat (first|((with_reducible apply d_end);(simp;exact Rz))|((with_reducible apply P1);rfl;(simp (disch:=omega);exact Rz);exact Rz;(focus (first|(simp;done)|omega|(simp;omega))))|((with_reducible apply Z6);(simp (disch:=omega);exact Rz))|((with_reducible apply W2);(simp (disch:=omega);exact Rz)))
            exact q_keep ⟨true,rfl,rfl,by simp at hA ⊢;omega⟩
          | true =>
            by_cases h0:0<i
            · have hy:rd H id (off+(i-1) * 9) 1=some [.int .i64 (l[i-1]'(by omega)).id]:=by
                have:=rd_sub (rd_row Str.av_length hs (show i-1<l.length by omega)) (show 0+1≤9 by omega)
                simpa [Str.av] using this
              generalize hz:(l[i-1]'(by omega)).id=z at hy
              by_cases h1:a1≤z
              · repeat (first|((with_reducible apply d_end);(simp;exact Rz))|((first|((with_reducible apply P1);rfl)|((with_reducible apply P2);rfl));(simp (disch:=omega) [h0,rd_old _ hid,hy,h1];exact Rz);exact Rz;(focus (first|(simp;done)|omega|(simp;omega))))|((with_reducible apply Z8);(simp (disch:=omega) [h0,rd_old _ hid,hy,h1];exact Rz))|((with_reducible apply Z6);(simp (disch:=omega) [h0,rd_old _ hid,hy,h1];exact Rz)))
                exact q_keep ⟨true,rfl,rfl,by simp [h0,hz];omega⟩
              · have hq:∀ _:0<i,(l[i-1]'(by omega)).id<a1:=by intro _;omega
                repeat (first|((first|((with_reducible apply P1);rfl)|((with_reducible apply P2);rfl));(simp (disch:=omega) [h0,rd_old _ hid,hy,h1];exact Rz);exact Rz;(focus (first|(simp;done)|omega|(simp;omega))))|((with_reducible apply Z8);(simp (disch:=omega) [h0,rd_old _ hid,hy,h1];exact Rz)))
                (with_reducible apply d_call);(simp;exact Rz);exact c_rspan' _ _ _ _ _ hB;simp
                cases bB with
                | false =>
                  repeat (first|((with_reducible apply d_end);(simp;exact Rz))|((with_reducible apply P1);rfl;(simp (disch:=omega);exact Rz);exact Rz;(focus (first|(simp;done)|omega|(simp;omega))))|((with_reducible apply Z8);(simp (disch:=omega);exact Rz))|((with_reducible apply Z6);(simp (disch:=omega);exact Rz)))
                  exact q_keep ⟨true,rfl,rfl,by simp at hB ⊢;omega⟩
                | true =>
                  repeat (first|((first|((with_reducible apply P1);rfl)|((with_reducible apply P2);rfl));(simp (disch:=omega);exact Rz);exact Rz;(focus (first|(simp;done)|omega|(simp;omega))))|((with_reducible apply Z8);(simp (disch:=omega);exact Rz)))
                  (with_reducible apply d_call);(simp;exact Rz);exact c_rspan' _ _ _ _ _ hC;simp
                  cases bC with
                  | false =>
                    repeat (first|((with_reducible apply d_end);(simp;exact Rz))|((with_reducible apply P1);rfl;(simp (disch:=omega);exact Rz);exact Rz;(focus (first|(simp;done)|omega|(simp;omega))))|((with_reducible apply Z8);(simp (disch:=omega);exact Rz))|((with_reducible apply Z6);(simp (disch:=omega);exact Rz)))
                    exact q_keep ⟨true,rfl,rfl,by simp at hC ⊢;omega⟩
                  | true =>
                    repeat (first|((first|((with_reducible apply P1);rfl)|((with_reducible apply P2);rfl));(simp (disch:=omega);exact Rz);exact Rz;(focus (first|(simp;done)|omega|(simp;omega))))|((with_reducible apply Z8);(simp (disch:=omega);exact Rz)))
                    (with_reducible apply d_call);(simp;exact Rz);exact c_rwithin' _ _ _ _ hD;simp
                    cases bD with
                    | false =>
                      repeat (first|((with_reducible apply d_end);(simp;exact Rz))|((with_reducible apply P1);rfl;(simp (disch:=omega);exact Rz);exact Rz;(focus (first|(simp;done)|omega|(simp;omega))))|((with_reducible apply Z8);(simp (disch:=omega);exact Rz)))
                      exact q_keep ⟨true,rfl,rfl,by simp at hD ⊢;omega⟩
                    | true =>
                      repeat (first|((with_reducible apply d_end);(simp;exact Rz))|((with_reducible apply P1);rfl;(simp (disch:=omega);exact Rz);exact Rz;(focus (first|(simp;done)|omega|(simp;omega))))|((with_reducible apply Z8);(simp (disch:=omega);exact Rz)))
                      exact q_keep ⟨false,rfl,rfl,by simp;exact⟨hA.1 rfl,hq,hB.1 rfl,hC.1 rfl,hD.1 rfl⟩⟩
            · have hq:∀ _:0<i,(l[i-1]'(by omega)).id<a1:=by intro h;exact absurd h h0
              repeat (first|((first|((with_reducible apply P1);rfl)|((with_reducible apply P2);rfl));(simp (disch:=omega) [h0];exact Rz);exact Rz;(focus (first|(simp;done)|omega|(simp;omega))))|((with_reducible apply Z8);(simp (disch:=omega) [h0];exact Rz))|((with_reducible apply Z5);(simp (disch:=omega) [h0];exact Rz)))
              (with_reducible apply d_call);(simp;exact Rz);exact c_rspan' _ _ _ _ _ hB;simp
              cases bB with
              | false =>
                repeat (first|((with_reducible apply d_end);(simp;exact Rz))|((with_reducible apply P1);rfl;(simp (disch:=omega);exact Rz);exact Rz;(focus (first|(simp;done)|omega|(simp;omega))))|((with_reducible apply Z8);(simp (disch:=omega);exact Rz))|((with_reducible apply Z6);(simp (disch:=omega);exact Rz)))
                exact q_keep ⟨true,rfl,rfl,by simp at hB ⊢;omega⟩
              | true =>
                repeat (first|((first|((with_reducible apply P1);rfl)|((with_reducible apply P2);rfl));(simp (disch:=omega);exact Rz);exact Rz;(focus (first|(simp;done)|omega|(simp;omega))))|((with_reducible apply Z8);(simp (disch:=omega);exact Rz)))
                (with_reducible apply d_call);(simp;exact Rz);exact c_rspan' _ _ _ _ _ hC;simp
                cases bC with
                | false =>
                  repeat (first|((with_reducible apply d_end);(simp;exact Rz))|((with_reducible apply P1);rfl;(simp (disch:=omega);exact Rz);exact Rz;(focus (first|(simp;done)|omega|(simp;omega))))|((with_reducible apply Z8);(simp (disch:=omega);exact Rz))|((with_reducible apply Z6);(simp (disch:=omega);exact Rz)))
                  exact q_keep ⟨true,rfl,rfl,by simp at hC ⊢;omega⟩
                | true =>
                  repeat (first|((first|((with_reducible apply P1);rfl)|((with_reducible apply P2);rfl));(simp (disch:=omega);exact Rz);exact Rz;(focus (first|(simp;done)|omega|(simp;omega))))|((with_reducible apply Z8);(simp (disch:=omega);exact Rz)))
                  (with_reducible apply d_call);(simp;exact Rz);exact c_rwithin' _ _ _ _ hD;simp
                  cases bD with
                  | false =>
                    repeat (first|((with_reducible apply d_end);(simp;exact Rz))|((with_reducible apply P1);rfl;(simp (disch:=omega);exact Rz);exact Rz;(focus (first|(simp;done)|omega|(simp;omega))))|((with_reducible apply Z8);(simp (disch:=omega);exact Rz)))
                    exact q_keep ⟨true,rfl,rfl,by simp at hD ⊢;omega⟩
                  | true =>
                    repeat (first|((with_reducible apply d_end);(simp;exact Rz))|((with_reducible apply P1);rfl;(simp (disch:=omega);exact Rz);exact Rz;(focus (first|(simp;done)|omega|(simp;omega))))|((with_reducible apply Z8);(simp (disch:=omega);exact Rz)))
                    exact q_keep ⟨false,rfl,rfl,by simp;exact⟨hA.1 rfl,hq,hB.1 rfl,hC.1 rfl,hD.1 rfl⟩⟩
        · rintro _ _ ⟨b,rfl,rfl,hb⟩
          have hok:okAt l i↔(b=false∧sidedB a8 a6 a7=true):=by
            constructor
            · rintro⟨_,h1,h2⟩
              rw [hsi] at h1 h2
              exact⟨hb.2 ⟨h1.2.1,h2,h1.2.2.1,h1.2.2.2.1,h1.2.2.2.2⟩,h1.1⟩
            · rintro⟨h1,h2⟩
              have h3:=hb.1 h1
              refine⟨hlt,?_,?_⟩
              · rw [hsi]
                exact⟨h2,h3.1,h3.2.2.1,h3.2.2.2.1,h3.2.2.2.2⟩
              · rw [hsi]
                exact h3.2.1
          have fin:¬ okAt l i→(false=true↔validL l):=fun h=>by
            simp only [Bool.false_eq_true,false_iff]
            exact fun hv=>h (hv.2 i hlt)
          have nxt:okAt l i→∀ j,j<i+1→okAt l j:=by
            intro h j hj
            rcases Nat.lt_or_ge j i with h2|h2
            · exact hi2 j h2
            · obtain rfl:j=i:=by omega
              exact h
          cases b with
          | true =>
            repeat (first|(with_reducible first|apply X1|apply X2|apply X3|apply X8|apply X9|apply Y3|apply Y5)|((with_reducible apply e_end);(simp;exact Rz))|((with_reducible apply O1);rfl;(simp (disch:=omega);exact Rz);exact Rz;(focus (first|(simp;done)|omega|(simp;omega))))|((with_reducible apply Z9);(simp (disch:=omega);exact Rz)))
            refine q_drop (.inr rfl) (by simp;exact Rz) (by simp) ⟨rfl,false,rfl,fin (by rw [hok];first|(simp [sidedB];done)|(simp [sidedB];omega))⟩
          | false =>
            by_cases s0:a8=0
            · by_cases r1:a6=0
              · by_cases r2:a7=0
                · repeat (first|(with_reducible first|apply X1|apply X2|apply X5|apply X6|apply X8|apply Y2)|((with_reducible apply e_end);(simp;exact Rz))|((with_reducible apply O1);rfl;(simp (disch:=omega) [s0,r1,r2];exact Rz);exact Rz;(focus (first|(simp;done)|omega|(simp;omega))))|((with_reducible first|apply Z7|apply Z9);(simp (disch:=omega) [s0,r1,r2];exact Rz))|((with_reducible apply W3);(simp (disch:=omega) [s0,r1,r2];exact Rz)))
                  exact q_again ⟨i+1,by omega,nxt (by rw [hok];first|(simp [sidedB];done)|(simp [sidedB];omega))⟩ (by dsimp only;omega) (.inr <| le_take (G:=[_]) (by simp [hid];omega) (by simp [hid,Red]))
                · repeat (first|(with_reducible first|apply X1|apply X2|apply X3|apply X5|apply X6|apply X8|apply X9|apply Y3|apply Y5)|((with_reducible apply e_end);(simp;exact Rz))|((with_reducible apply O1);rfl;(simp (disch:=omega) [s0,r1,r2];exact Rz);exact Rz;(focus (first|(simp;done)|omega|(simp;omega))))|((with_reducible first|apply Z7|apply Z9);(simp (disch:=omega) [s0,r1,r2];exact Rz))|((with_reducible apply W3);(simp (disch:=omega) [s0,r1,r2];exact Rz)))
                  refine q_drop (.inr rfl) (by simp;exact Rz) (by simp) ⟨rfl,false,rfl,fin (by rw [hok];first|(simp [sidedB];done)|(simp [sidedB];omega))⟩
              · repeat (first|(with_reducible first|apply X1|apply X2|apply X3|apply X5|apply X6|apply X8|apply X9|apply Y3|apply Y5)|((with_reducible apply e_end);(simp;exact Rz))|((with_reducible apply O1);rfl;(simp (disch:=omega) [s0,r1];exact Rz);exact Rz;(focus (first|(simp;done)|omega|(simp;omega))))|((with_reducible apply Z9);(simp (disch:=omega) [s0,r1];exact Rz))|((with_reducible apply Z2);(simp (disch:=omega) [s0,r1];exact Rz))|((with_reducible apply W3);(simp (disch:=omega) [s0,r1];exact Rz)))
                refine q_drop (.inr rfl) (by simp;exact Rz) (by simp) ⟨rfl,false,rfl,fin (by rw [hok];first|(simp [sidedB];done)|(simp [sidedB];omega))⟩
            · by_cases s12:a8=1∨a8=2
              · obtain⟨bR,hR⟩:=bof (a6≤a7∧500≤a6∧a7≤20000)
                rcases s12 with rfl|rfl
                all_goals
                  repeat (first|(with_reducible first|apply X1|apply X2|apply X5|apply X6|apply X8)|((with_reducible apply e_end);(simp;exact Rz))|((with_reducible apply O1);rfl;(simp (disch:=omega);exact Rz);exact Rz;(focus (first|(simp;done)|omega|(simp;omega))))|((with_reducible apply Z9);(simp (disch:=omega);exact Rz))|((with_reducible apply W3);(simp (disch:=omega);exact Rz)))
                  (with_reducible apply e_call);(simp;exact Rz);exact c_rspan' _ _ _ _ _ hR
                  rintro _ _ ⟨rfl,rfl⟩
                  cases bR with
                  | true =>
                    repeat (first|(with_reducible first|apply X2|apply X5|apply X8|apply Y2)|((with_reducible apply e_end);(simp;exact Rz))|((with_reducible apply O1);rfl;(simp (disch:=omega);exact Rz);exact Rz;(focus (first|(simp;done)|omega|(simp;omega))))|((with_reducible apply W3);(simp (disch:=omega);exact Rz)))
                    have hR:=hR.1 rfl
                    exact q_again ⟨i+1,by omega,nxt (by rw [hok];first|(simp [sidedB];done)|(simp [sidedB];omega))⟩ (by dsimp only;omega) (.inr <| le_take (G:=[_]) (by simp [hid];omega) (by simp [hid,Red]))
                  | false =>
                    repeat (first|(with_reducible first|apply X1|apply X2|apply X3|apply X8|apply X9|apply Y3|apply Y5)|((with_reducible apply e_end);(simp;exact Rz))|((with_reducible apply O1);rfl;(simp (disch:=omega);exact Rz);exact Rz;(focus (first|(simp;done)|omega|(simp;omega))))|((with_reducible apply Z9);(simp (disch:=omega);exact Rz)))
                    simp at hR
                    refine q_drop (.inr rfl) (by simp;exact Rz) (by simp) ⟨rfl,false,rfl,fin (by rw [hok];first|(simp [sidedB];done)|(simp [sidedB];omega))⟩
              · have s1:¬ a8=1:=by omega
                have s2:¬ a8=2:=by omega
                repeat (first|(with_reducible first|apply X1|apply X2|apply X3|apply X5|apply X6|apply X8|apply X9|apply Y3|apply Y5)|((with_reducible apply e_end);(simp;exact Rz))|((with_reducible apply O1);rfl;(simp (disch:=omega) [s0,s1,s2];exact Rz);exact Rz;(focus (first|(simp;done)|omega|(simp;omega))))|((with_reducible apply W3);(simp (disch:=omega) [s0,s1,s2];exact Rz)))
                refine q_drop (.inr rfl) (by simp;exact Rz) (by simp) ⟨rfl,false,rfl,fin (by rw [hok];first|(simp [sidedB];done)|(simp [sidedB];omega))⟩
      · intro hge
        repeat (first|(with_reducible first|apply X1|apply X2|apply X3|apply X4|apply X8|apply Y1|apply Y4|apply Y6)|((with_reducible apply e_end);(simp;exact Rz))|((with_reducible apply O1);rfl;(simp (disch:=omega);exact Rz);exact Rz;(focus (first|(simp;done)|omega|(simp;omega)))))
        refine q_drop (.inr rfl) (by simp;exact Rz) (by simp) ⟨rfl,true,rfl,?_⟩
        have:i=l.length:=by omega
        subst this
        simp only [validL,true_iff]
        exact⟨hb1,hi2⟩
def chooseF (us:List Int) (i:Int):Int:=us.getD (i.toNat % us.length) 0
def someF (lo hi b:Int):Int:=lo+b % (hi-lo+1)
def strAt (l:List Str) (j:Nat):Str:=l.getD j ⟨0,0,0,0,0,0,0,0,0⟩
theorem strAt_eq {l:List Str} {j:Nat} (h:j<l.length):strAt l j=l[j]:=by
  simp [strAt,List.getD_eq_getElem?_getD,List.getElem?_eq_getElem h]
def longF (us:List Int) (l:List Str) (j:Nat):Int:=someF (strAt l j).lLo (strAt l j).lHi (chooseF us (2 * j))
def fallF (us:List Int) (l:List Str) (j:Nat):Int:=someF (strAt l j).fLo (strAt l j).fHi (chooseF us (2 * j+1))
def avL (f:Nat→Int) (n:Nat):List AV:=(List.range n).map fun j=>.int .i64 (f j)
theorem avL_length (f:Nat→Int) (n:Nat):(avL f n).length=n:=by simp [avL]
theorem avL_succ (f:Nat→Int) (n:Nat):avL f (n+1)=avL f n++[.int .i64 (f n)]:=by simp [avL,List.range_succ]
theorem avL_scal (f:Nat→Int) (n:Nat):(avL f n).all scal=true:=by simp [avL,scal]
theorem avL_take (f:Nat→Int) (n:Nat):(avL f n).take n=avL f n:=List.take_of_length_le (by simp [avL_length])
theorem avL_sc (f:Nat→Int) (n m:Nat):scL m (avL f n)=true:=by
  unfold avL
  induction List.range n with
  | nil=>rfl
  | cons a r ih=>simpa [scL,AV.sc] using ih
theorem avL_ren (ρ:Nat→Nat) (f:Nat→Int) (n:Nat):renL ρ (avL f n)=avL f n:=by
  unfold avL
  induction List.range n with
  | nil=>rfl
  | cons a r ih=>simpa [renL,AV.ren] using ih
theorem at_new0 (H G:Heap):(H++G)[H.length]?=G[0]?:=by simp [List.getElem?_append_right]
theorem at_new (H G:Heap) (k:Nat):(H++G)[H.length+k]?=G[k]?:=by simp [List.getElem?_append_right]
theorem set_new0 (H G:Heap) (o:AObj):(H++G).set H.length o=H++G.set 0 o:=by simp [List.set_append]
theorem set_new (H G:Heap) (k:Nat) (o:AObj):(H++G).set (H.length+k) o=H++G.set k o:=by simp [List.set_append]
end Go.Proofs
